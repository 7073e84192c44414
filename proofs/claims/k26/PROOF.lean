import PyProof.Rows.All
import Wide.All
import OpenK.AllK
import Wide.FinOn
import HandS.ForMost
import HandS.IsInst
import HandS.ClsMeth
import HandS.Property
import HandS.Strs
import HandS.Wide
import PyProof.LongRange
import HandS.Exc
import PyProof.Rows.NestShow
import HandS.SetFor
import HandS.ExcInit
import HandS.ExcField
import HandS.ExcOwn
import HandS.WordsExc
import KE.KExcIs
import HandS.Small
import PyProof.Rows.Range3
import KE.KExcInit
import HandS.MakeKwOnly
import PyProof.ExcBaseAll.LookupError
import PyProof.ExcBaseAll.ValueError
import PyProof.ExcBaseAll.OverflowError
import PyProof.ExcBaseAll.RuntimeError
import PyProof.InstEq
import PyProof.EqKinds
import KE.KEqDict
import PyProof.CallStr
import HandS.More
import HandS.Replace
import HandS.Text
import PyProof.ListStr
import PyProof.StrOps2
import HandS.Comp
import PyProof.Rows.SortStr
import PyProof.Rows.StrMeet
import HandS.List
import HandS.Dict
import HandS.DictEq
import PyProof.SumAny
import KE.SortData
import PyProof.ReprRoads
import HandS.Style
import PyProof.ReprBulk
import HandS.NoneIn
import HandS.Iter
import HandS.Walk
import HandS.WordsDict
import HandS.ExcIs
import HandS.Codes
import HandS.Lambda
import HandS.Zip
import HandS.Finally
import HandS.Conv
import HandS.DeepEq
import HandS.FStr
import HandS.StrSplit
import HandS.Steps
import HandS.StrMore
import KE.RegKIsAll
import KE.KOpsOwn
import HandS.TupSets
import PyProof.SeqIndex
import HandS.TryOnly
import HandS.RaiseMore
import HandS.Star
import HandS.EndTab
import KE.KNestM
import HandS.Base
import HandS.Call
import HandS.Deep
import PyProof.FactsAll.dict_1
import PyProof.FactsAll.subtypes_4
import PyProof.FactsAll.subtypes_3
import HandS.OwnEq
import HandS.FltList
import PySem.Challenge.RW_gaplesskeys_k26_runs_that_jump
set_option Elab.async false
set_option linter.all false
set_option maxRecDepth 100000
set_option maxHeartbeats 4000000
namespace Jg
open PySem PySem.Spec PyProof.Rows L2
end Jg
namespace Jg
open PySem PySem.Spec PyProof.Rows L2
/-- a def's promise where no repr is under way -/
structure FnG (P : Program) (w : World) (K : PySem.W.Frag) (mg : Str → Option Value) (base : Heap) (CX : CXT) (k : Nat) (f : Addr) (fd : FuncData) (ps : List Str) (sp : Sp) : Prop where
  len : ∀ vs H Q E, sp vs H Q E → vs.length = ps.length
  run : ∀ (A : Around), A.guards = some [] → ∀ (outer : List Env) (s : Shared) (H : Hp) (args : Args) (us : List Value) (vs : List V) (Q : VK) (E : XK), Room k A → Env0 P w K mg base A outer s H → BindsTo s fd args (ps.zip us) → Vals vs us → sp vs H Q E →
    codeAny (model P w) A (.call (.ref f) args) (CR CX outer P w H s Q E) s
theorem FnG.of {P : Program} {w : World} {K : PySem.W.Frag} {mg : Str → Option Value} {base : Heap} {CX : CXT} {k : Nat} {f : Addr} {fd : FuncData} {ps : List Str} {sp : Sp} (F : FnOk P w K mg base CX k f fd ps sp) : FnG P w K mg base CX k f fd ps sp :=
  ⟨F.len, fun A _ => F.run A⟩
theorem FnG.mono {P : Program} {w : World} {K : PySem.W.Frag} {mg : Str → Option Value} {base : Heap} {CX : CXT} {j k : Nat} {f : Addr} {fd : FuncData} {ps : List Str} {sp : Sp} (F : FnG P w K mg base CX j f fd ps sp) (h : j ≤ k) :
    FnG P w K mg base CX k f fd ps sp := ⟨F.len, fun A g outer s H args us vs Q E hr => F.run A g outer s H args us vs Q E (hr.mono h)⟩
/-- a number that the top keeps under a name, whatever its token -/
theorem loose_int {p : Program} {lv : List (Str × PySem.W.WData)} {mg : Str → Option Value} {h : Heap} {x : Str} {i : Int} (X : PySem.W.XL p lv mg h) (hm : (x, PySem.W.WData.int i) ∈ lv) : ∃ u, mg x = some u ∧ L2.RelV (.int i) u := by
  obtain ⟨v, e, r⟩ := X.2.val _ hm
  cases r
  exact ⟨_, e, _, rfl⟩
end Jg
namespace Jg
open PySem PySem.Spec PyProof.Rows L2
/-- a def of the module as the top leaves it -/
structure DefK (K : PySem.W.Frag) (mg : Str → Option Value) (x : Str) (st : Stmt) : Prop where
  ex : ∃ f fd, Fun K x x st f fd ∧ mg x = some (.ref f)
theorem DefK.of {K : PySem.W.Frag} {h : Heap} {mg : Str → Option Value} {x : Str} {st : Stmt} {f : Addr} {oc : Value} {od an : Option Addr} {osl : Array (Option Value)} {kV doc pm cdv ct : Value} (X : K.In h) (G : h.Ns mainGlobals mg)
    (a : PySem.W.nsIn K mainGlobals x = some (some (.ref f))) (l : K.lookup f = some ⟨oc, od, .func (PySem.W.fnOf x x (defArgs st) (defBody st) (defScope st) .none kV doc pm an cdv ct), osl⟩)
    (c : PySem.W.codeIn K cdv x = true) (k : PySem.W.keepIn K (.ref f) = true) : DefK K mg x st := ⟨f, _, fun_mk l c k, PySem.W.mg_of X G a⟩
/-- a method of the class at C -/
structure MetK (K : PySem.W.Frag) (C : Addr) (m qual : Str) (st : Stmt) : Prop where
  ex : ∃ f fd, Fun K m qual st f fd ∧ PySem.W.findIn K (.ref C) m = some (some (.ref f)) ∧ PySem.W.isFn K (.ref f) = true
theorem MetK.of {K : PySem.W.Frag} {C : Addr} {m qual : Str} {st : Stmt} {f : Addr} {oc : Value} {od an : Option Addr} {osl : Array (Option Value)} {kV doc pm cdv ct : Value}
    (a : PySem.W.findIn K (.ref C) m = some (some (.ref f))) (i : PySem.W.isFn K (.ref f) = true) (l : K.lookup f = some ⟨oc, od, .func (PySem.W.fnOf m qual (defArgs st) (defBody st) (defScope st) .none kV doc pm an cdv ct), osl⟩)
    (c : PySem.W.codeIn K cdv qual = true) (k : PySem.W.keepIn K (.ref f) = true) : MetK K C m qual st := ⟨f, _, fun_mk l c k, a, i⟩
/-- a property of the class at C -/
structure PrpK (K : PySem.W.Frag) (C : Addr) (m qual : Str) (st : Stmt) : Prop where
  ex : ∃ p f fd, Fun K m qual st f fd ∧ PropOf K C m p f
theorem PrpK.of {K : PySem.W.Frag} {C : Addr} {m qual : Str} {st : Stmt} {p f : Addr} {rest : List Value} {oc : Value} {od an : Option Addr} {osl : Array (Option Value)} {kV doc pm cdv ct : Value}
    (a : PySem.W.findIn K (.ref C) m = some (some (.ref p))) (g : PySem.W.specialIn K (.ref p) "__get__" = some (some (.builtin "property.__get__"))) (tk : PySem.W.takesIn K (.ref p) = some true) (rc : PySem.W.recIn K p "property" = some (.ref f :: rest))
    (l : K.lookup f = some ⟨oc, od, .func (PySem.W.fnOf m qual (defArgs st) (defBody st) (defScope st) .none kV doc pm an cdv ct), osl⟩)
    (c : PySem.W.codeIn K cdv qual = true) (k : PySem.W.keepIn K (.ref f) = true) : PrpK K C m qual st := ⟨p, f, _, fun_mk l c k, ⟨a, g, tk, rest, rc⟩⟩
/-- a classmethod of the class at C -/
structure CmtK (K : PySem.W.Frag) (C : Addr) (mc : Value) (m qual : Str) (st : Stmt) : Prop where
  ex : ∃ p f fd, Fun K m qual st f fd ∧ ClX.CRead K C mc ∧ ClX.CMet K C mc m p f
theorem CmtK.of {K : PySem.W.Frag} {C : Addr} {mc : Value} {m qual : Str} {st : Stmt} {p f : Addr} {rest : List Value} {oc : Value} {od an : Option Addr} {osl : Array (Option Value)} {kV doc pm cdv ct : Value}
    (rd : PySem.W.readsIn K C mc = true) (ga : PySem.W.specialIn K (.ref C) "__getattribute__" = some (some (.builtin "type.__getattribute__")))
    (a : PySem.W.findCls K (.ref C) mc m = some (.get (.builtin "classmethod.__get__") (.ref p) .none (.ref C))) (rc : PySem.W.recIn K p "classmethod" = some (.ref f :: rest)) (fi : PySem.W.fnIn K f = true)
    (l : K.lookup f = some ⟨oc, od, .func (PySem.W.fnOf m qual (defArgs st) (defBody st) (defScope st) .none kV doc pm an cdv ct), osl⟩)
    (c : PySem.W.codeIn K cdv qual = true) (k : PySem.W.keepIn K (.ref f) = true) : CmtK K C mc m qual st := ⟨p, f, _, fun_mk l c k, ⟨rd, ga⟩, ⟨a, ⟨rest, rc⟩, fi⟩⟩
section
variable (P : Program) (w : World) (K : PySem.W.Frag) (mg : Str → Option Value) (base : Heap) (CX : CXT) (k : Nat)
/-- a def that may be called by its name -/
structure Cal (x : Str) (sp : Sp) : Prop where
  ex : ∃ f fd ps, FnOk P w K mg base CX k f fd ps sp ∧ mg x = some (.ref f) ∧ PySem.W.keepIn K (.ref f) = true ∧ Binds K fd ps []
structure CalG (x : Str) (sp : Sp) : Prop where
  ex : ∃ f fd ps, FnG P w K mg base CX k f fd ps sp ∧ mg x = some (.ref f) ∧ PySem.W.keepIn K (.ref f) = true ∧ Binds K fd ps []
end
theorem CalG.of {P : Program} {w : World} {K : PySem.W.Frag} {mg : Str → Option Value} {base : Heap} {CX : CXT} {k : Nat} {x : Str} {sp : Sp} (c : Cal P w K mg base CX k x sp) : CalG P w K mg base CX k x sp :=
  let ⟨f, fd, ps, F, a⟩ := c.ex
  ⟨f, fd, ps, .of F, a⟩
end Jg
namespace Jg
open PySem PySem.Spec PyProof.Rows L2
end Jg
namespace Jg
open PySem PySem.Spec PyProof.Rows L2
end Jg
namespace Jg
open PySem PySem.Spec PyProof.Rows L2
end Jg
namespace Jg
open PySem PySem.Spec PyProof.Rows L2
/-- an exception a of the class cls, its dict d, lies caught in the frame of X -/
def Caught (X : Cx) (pins : List (Addr × Obj)) (σ : L2.St) (H : Hp) (a : Addr) (cls : Value) (d : Option Addr) (s : Shared) : Prop :=
  ∃ (B : Heap) (s0 : Shared), Inv X pins σ H s0 ∧ (∀ b o, s0.heap.get? b = some o → b ∉ frs X.stack → B.get? b = some o) ∧ s0.heap.UpToSlots s.heap ∧
    HandSPX.FlyingZ B (X.env :: X.outer) a (Zc cls d) s.heap ∧ s.os = s0.os ∧ AllBare s.gens ∧ H a = none
section
variable {X : Cx} {pins : List (Addr × Obj)} {σ : L2.St} {H : Hp} {a : Addr} {cls : Value} {d : Option Addr} {s : Shared}
theorem Caught.inv (c : Caught X pins σ H a cls d s) : Inv X pins σ H s :=
  let ⟨_, _, J, keep, up, fly, os, bare, _⟩ := c
  J.landed keep fly.1 up os bare
theorem Caught.hole (c : Caught X pins σ H a cls d s) : H a = none :=
  let ⟨_, _, _, _, _, _, _, _, z⟩ := c
  z
/-- the place of the exception, and what stands there -/
theorem Caught.place (c : Caught X pins σ H a cls d s) (fr : X.env.frame = some X.env.locals) :
    ∃ oe vs, s.heap.get? a = some oe ∧ Zc cls d oe ∧ oe.data = .fields vs ∧ a ≠ X.env.locals ∧ a ∉ X.fs := by
  obtain ⟨B, s0, J, keep, up, fly, os, bare, z⟩ := c
  obtain ⟨oe, vs, at_, zc, dt⟩ := fly.there
  have out : a ∉ frs (X.env :: X.outer) := fun m => by
    obtain ⟨_, o, at2, no⟩ := fly.2.2.1.mem m
    cases at_.symm.trans at2
    exact no vs dt
  refine ⟨oe, vs, at_, zc, dt, fun e => out ?_, fun m => out ?_⟩
  · rw [e]
    exact List.mem_filterMap.mpr ⟨_, List.mem_cons_self, fr⟩
  · obtain ⟨e, me, fe⟩ := List.mem_filterMap.mp m
    exact List.mem_filterMap.mpr ⟨e, List.mem_cons_of_mem _ me, fe⟩
theorem Caught.again {M : Model} {A : Around} {E : Value → Shared → Prop} {Q : Unit → Shared → Prop} (c : Caught X pins σ H a cls d s) (q : ∀ s', Caught X pins σ H a cls d s' → Q () s') :
    wpAny M A (setFlight (.ref a) .none) Q E s := by
  obtain ⟨B, s0, J, keep, up, fly, os, bare, z⟩ := c
  exact HandSPX.lands_againZ fly fun h' fly' up' => q _ ⟨B, s0, J, keep, up.trans up', fly', os, bare, z⟩
/-- no clause took it: it goes on -/
theorem Caught.goes {W : WX} {Q : Flow → Shared → Prop} {pos : String} (ok : X.Ok) (hs : X.stack = X.env :: X.outer) (fr : X.env.frame = some X.env.locals) (c : Caught X pins σ H a cls d s) (tk : Takes X W) (w : W cls d σ H) :
    wpAny (model X.prog X.w) X.A (passOn pos (.ref a) X.env) Q X.xe s := by
  obtain ⟨B, s0, J, keep, up, fly, os, bare, z⟩ := c
  obtain ⟨_, _, _, oe, vs, T, oT, ts, at_, _, dt, one, _⟩ := id fly
  have last : wpAny (model X.prog X.w) X.A (setFlight (.ref a) X.env.frame) (fun _ s4 => wpAny (model X.prog X.w) X.A (throw (.ref a) : Sem Flow) Q X.xe s4) X.xe s := by
    rw [fr]
    refine HandSPX.setFlight_upZ fly fun h4 held up4 => wpAny_throw (tk _ _ ⟨a, B, s0, pins, σ, H, cls, d, rfl, J, keep, up.trans up4, .inr (.inr ?_), z, os, bare, w⟩)
    rw [hs]
    exact held
  unfold PySem.passOn
  refine wpAny_bind (wpAny_field at_ dt one ?_)
  rw [if_neg (by simp : ¬ ((Value.ref T == Value.none) = true))]
  first
    | exact wpAny_bind (wpAny_pure (wpAny_bind last))
    | exact wpAny_bind last
end
/-- the slot i is free behind what the ends say -/
def gone (i : Nat) (D : Ends) : Ends := { nx := fun σ H => D.nx (σ.set i .none) H, rt := D.rt, bk := fun σ H => D.bk (σ.set i .none) H, ct := fun σ H => D.ct (σ.set i .none) H }
/-- what a row of clauses wishes of the exception -/
inductive Hds (X : Cx) (Wout : WX) : List ExceptHandler → (Ends → WX) → Prop
  | out : Hds X Wout [] fun _ => Wout
  | cut {l : List ExceptHandler} : Hds X Wout l fun _ _ _ _ _ => False
  | named {x n : Str} {c : Value} {i : Nat} {ts : Addr → Value → Option Addr → TS} {b : Stmt} {suite : List Stmt} {np p : Pos} {l : List ExceptHandler} {w : Ends → WX} (hi : X.N[i]? = some n) (hl : X.env.kindOf n = some .local) (hc : Names X x c)
      (body : ∀ (a : Addr) (oe : Obj) (cls : Value) (d : Option Addr) (pn : List (Addr × Obj)), Zc cls d oe → (∃ vs, oe.data = .fields vs) → PSs (X.suite a ((a, oe) :: pn)) (b :: suite) (ts a cls d)) (r : Hds X Wout l w) :
      Hds X Wout (.ExceptHandler (some (.Name x np)) (some n) (b :: suite) p :: l) fun D cls d σ H =>
        ∃ k, PySem.W.exmOne X.K cls c = some k ∧ (k = true → ∀ a, H a = .none → ts a cls d (gone i D) (σ.set i (some (.ref a))) H) ∧ (k = false → w D cls d σ H)
  | plain {x : Str} {c : Value} {ts : Addr → Value → Option Addr → TS} {b : Stmt} {suite : List Stmt} {np p : Pos} {l : List ExceptHandler} {w : Ends → WX} (hc : Names X x c)
      (body : ∀ (a : Addr) (oe : Obj) (cls : Value) (d : Option Addr) (pn : List (Addr × Obj)), Zc cls d oe → (∃ vs, oe.data = .fields vs) → PSs (X.suite a ((a, oe) :: pn)) (b :: suite) (ts a cls d)) (r : Hds X Wout l w) :
      Hds X Wout (.ExceptHandler (some (.Name x np)) none (b :: suite) p :: l) fun D cls d σ H =>
        ∃ k, PySem.W.exmOne X.K cls c = some k ∧ (k = true → ∀ a, H a = .none → ts a cls d D σ H) ∧ (k = false → w D cls d σ H)
section
variable {X : Cx} {Wout : WX}
/-- the test of a clause -/
theorem Caught.test {pins : List (Addr × Obj)} {σ : L2.St} {H : Hp} {a : Addr} {cls c : Value} {d : Option Addr} {s : Shared} {x : Str} {k : Bool} {np p : Pos} {R : Result → Shared → Prop} (t : Caught X pins σ H a cls d s) (fr : X.env.frame = some X.env.locals)
    (hc : Names X x c) (e : PySem.W.exmOne X.K cls c = some k) (q : R (.ok (if k then .brk else .next)) s) :
    codeAny (model X.prog X.w) (X.A.mark (some (.ref a))) (.handlers (.ref a) [.ExceptHandler (some (.Name x np)) none [] p] X.env) R s := by
  obtain ⟨oe, vs, at_, zc, dt, nl, nf⟩ := t.place fr
  have J := t.inv.suite at_ dt t.hole nl nf
  have ty : PySem.W.Looks (model X.prog X.w) s.heap (typeOf (.ref a)) cls := fun A Q E s' keep z => wpAny_typeOf_ref (keep _ _ at_) (by rw [zc.1]; exact z)
  have hit := PySem.W.exm_one (M := model X.prog X.w) t.inv.kIn ty e
  refine codeAny_handlers_test ?_
  obtain ⟨hg, nd, m | ⟨m, v, nn⟩⟩ := hc
  · exact ld_glob J hg m (hit.here q) nd
  · exact ld_blt J hg m v (hit.here q) nn nd
theorem Hds.run {hds : List ExceptHandler} {w : Ends → WX} (hd : Hds X Wout hds w) (hs : X.stack = X.env :: X.outer) (fr : X.env.frame = some X.env.locals) (hN : X.N.Nodup) (tk : Takes X Wout)
    {pins : List (Addr × Obj)} {σ : L2.St} {H : Hp} {a : Addr} {cls : Value} {d : Option Addr} {s : Shared} {D : Ends} (t : Caught X pins σ H a cls d s) (h : w D cls d σ H) :
    wpAny (model X.prog X.w) X.A (handleBy (.ref a) X.env hds) (SP X pins D) X.xe s := by
  have ok := t.inv.ok
  induction hd with
  | out => exact wpAny_handleBy_nil (t.goes ok hs fr tk h)
  | cut => exact h.elim
  | @named x n c i ts b suite np p l w hi hl hc body r ih =>
    obtain ⟨k, e, yes, no⟩ := h
    refine wpAny_handleBy_cons ?_ (fun z => nomatch z)
    refine t.test fr hc e ?_
    cases k with
    | false => exact ih (no rfl)
    | true =>
      refine codeAny_handlers_suite_as (t.again fun s2 t2 => ?_)
      obtain ⟨oe, vs, at_, zc, dt, nl, nf⟩ := t2.place fr
      have J := t2.inv.suite at_ dt t2.hole nl nf
      refine store_ok (X := X.suite a ((a, oe) :: (X.pn ++ pins))) (v := .ref a) J hN hi (.inl hl) rfl (fun s3 J3 => ?_) (.inr hl)
      refine wpAny_mono ((body a oe cls d _ zc ⟨vs, dt⟩).run [] s3 _ H _ J3 (yes rfl a t2.hole)) (fun f s4 z => ?_) fun _ _ z => z.elim
      have off : ∀ {σ4 : L2.St} {H4 : Hp} {Q : Shared → Prop}, Inv (X.suite a ((a, oe) :: (X.pn ++ pins))) [] σ4 H4 s4 → (∀ s5, Inv X pins (σ4.set i .none) H4 s5 → Q s5) →
          wpAny (model X.prog X.w) X.A (do bindName X.env n .none; unbindBehindTheSuite X.env n p) (fun _ s5 => Q s5) X.xe s4 := fun J4 q => gone_ok (J4.unsuite ok) hN hi hl q
      match f, z with
      | .next, ⟨_, _, J4, q⟩ => exact off J4 fun s5 J5 => ⟨_, _, J5, q⟩
      | .brk, ⟨_, _, J4, q⟩ => exact off J4 fun s5 J5 => ⟨_, _, J5, q⟩
      | .cont, ⟨_, _, J4, q⟩ => exact off J4 fun s5 J5 => ⟨_, _, J5, q⟩
      | .ret u, ⟨_, _, _, J4, rv, q⟩ => exact off J4 fun s5 J5 => ⟨_, _, _, J5, rv, q⟩
  | @plain x c ts b suite np p l w hc body r ih =>
    obtain ⟨k, e, yes, no⟩ := h
    refine wpAny_handleBy_cons ?_ (fun z => nomatch z)
    refine t.test fr hc e ?_
    cases k with
    | false => exact ih (no rfl)
    | true =>
      refine codeAny_handlers_suite (t.again fun s2 t2 => ?_)
      obtain ⟨oe, vs, at_, zc, dt, nl, nf⟩ := t2.place fr
      have J := t2.inv.suite at_ dt t2.hole nl nf
      refine wpAny_mono ((body a oe cls d _ zc ⟨vs, dt⟩).run [] s2 _ H _ J (yes rfl a t2.hole)) (fun f s4 z => ?_) fun _ _ z => z.elim
      match f, z with
      | .next, ⟨_, _, J4, q⟩ => exact ⟨_, _, J4.unsuite ok, q⟩
      | .brk, ⟨_, _, J4, q⟩ => exact ⟨_, _, J4.unsuite ok, q⟩
      | .cont, ⟨_, _, J4, q⟩ => exact ⟨_, _, J4.unsuite ok, q⟩
      | .ret u, ⟨_, _, _, J4, rv, q⟩ => exact ⟨_, _, _, J4.unsuite ok, rv, q⟩
end
/-- what the class of a caught exception must say, for its fields and for isinstance -/
structure ExcK (K : PySem.W.Frag) (C : Addr) : Prop where
  xf : XfC K C
  ha : PySem.W.findIn K (.ref C) "__class__" = some (some (.builtin "object.__class__"))
  hn : PySem.W.specialIn K (.builtin "object.__class__") "__get__" = some (some (.builtin "getset_descriptor.__get__"))
  ht : PySem.W.takesIn K (.builtin "object.__class__") = some true
  hm : PySem.W.mroIn K C (.type "object") = some true
end Jg
namespace Jg
open PySem PySem.Spec PyProof.Rows L2
/-- v is shown as x -/
inductive Shw (K : PySem.W.Frag) (H : Hp) : V → Str → Prop
  | non : Shw K H .non "None"
  | bl (b : Bool) : Shw K H (.bl b) (if b then "True" else "False")
  | int (i : Int) (h : i.natAbs.log2 < 1920) : Shw K H (.int i) (toString i)
  | str (x : Str) (h : (reprText x).length ≤ sizeLine) : Shw K H (.str x) (reprText x)
  | dat {a : Addr} {d : PyData} (h : Dp K H (.ref a) d) (s : d.showable = true) (dp : d.depth ≤ 40) (z : d.shown.length ≤ sizeLine) : Shw K H (.ref a) d.shown
  | dnew {a : Addr} (h : H a = some (.dK [])) : Shw K H (.ref a) (PyData.dict []).shown
theorem Shw.keep {K : PySem.W.Frag} {H H' : Hp} {v : V} {x : Str} (s : Shw K H v x) (k : ∀ d, Dp K H v d → Dp K H' v d) (k2 : ∀ a, H a = some (.dK []) → H' a = some (.dK [])) : Shw K H' v x := by
  cases s with
  | non => exact .non
  | bl b => exact .bl b
  | int i h => exact .int i h
  | str x h => exact .str x h
  | dat h s dp z => exact .dat (k _ h) s dp z
  | dnew h => exact .dnew (k2 _ h)
end Jg
namespace Jg
open PySem PySem.Spec PyProof.Rows L2
end Jg
namespace Jg
open PySem PySem.Spec PyProof.Rows L2
/-- the class at C stands over the built-in exception B -/
structure OvB (K : PySem.W.Frag) (C : Addr) (B nid iid : String) (line : List Value) : Prop where
  fB : ExcBaseFacts B nid iid line
  sB : StoreFacts B line "object.__setattr__" "object"
  ini : PySem.W.excInitIn K C line nid = true
  ovr : PySem.W.excOver K C line = true
  hd : PySem.W.hasDictIn K C = true
  sa : PySem.W.findIn K (.ref C) "__setattr__" = some (some (.builtin "object.__setattr__"))
  exC : PySem.W.subIn K (.ref C) (.type "BaseException") = some true
  tyC : PySem.W.typeIn K (.ref C) = some (.type "type")
  kC : PySem.W.keepIn K (.ref C) = true
def Ovr (K : PySem.W.Frag) (C : Addr) : Prop := ∃ B nid iid line, OvB K C B nid iid line
/-- __init__ with keyword-only parameters, as the top leaves it -/
structure IniK (K : PySem.W.Frag) (C : Addr) (qual : Str) (st : Stmt) (kws : List (Str × V)) : Prop where
  ex : ∃ f fd, FunD K "__init__" qual (defArgs st) (defBody st) (defScope st) [] kws f fd ∧ PySem.W.findIn K (.ref C) "__init__" = some (some (.ref f)) ∧ PySem.W.isFn K (.ref f) = true
theorem IniK.of {K : PySem.W.Frag} {C : Addr} {qual : Str} {st : Stmt} {f : Addr} {oc : Value} {od an : Option Addr} {osl : Array (Option Value)} {kV doc pm cdv ct : Value} {kws : List (Str × V)}
    (a : PySem.W.findIn K (.ref C) "__init__" = some (some (.ref f))) (i : PySem.W.isFn K (.ref f) = true) (l : K.lookup f = some ⟨oc, od, .func (PySem.W.fnOf "__init__" qual (defArgs st) (defBody st) (defScope st) .none kV doc pm an cdv ct), osl⟩)
    (c : PySem.W.codeIn K cdv qual = true) (k : PySem.W.keepIn K (.ref f) = true) (kw : KwdV K kV kws) : IniK K C qual st kws := ⟨f, _, ⟨⟨oc, od, .none, kV, doc, pm, an, cdv, ct, osl, rfl, l, c, .inl ⟨rfl, rfl⟩, kw⟩, k⟩, a, i⟩
end Jg
namespace Jg
open PySem PySem.Spec PyProof.Rows L2 PySem.W
end Jg
namespace Jg
open PySem PySem.Spec PyProof.Rows L2 PySem.W
end Jg
namespace Jg
open PySem PySem.Spec PyProof.Rows L2
end Jg
namespace Jg
open PySem PySem.Spec PyProof.Rows L2
/-- each text once -/
def addW (l : List Str) (z : Str) : List Str := if z ∈ l then l else z :: l
def onceW (ks : List Str) : List Str := ks.foldl addW []
end Jg
namespace Jg
open PySem PySem.Spec PyProof.Rows L2
end Jg
namespace Jg
open PySem PySem.Spec PyProof.Rows L2
end Jg
namespace Jg
open PySem PySem.Spec PyProof.Rows L2
/-- xs stands at a, as a list (true) or as a tuple -/
def SqE (K : PySem.W.Frag) (b : Bool) (H : Hp) (a : Addr) (xs : List V) : Prop := if b = true then SqL K H a xs else SqT K H a xs
end Jg
namespace Jg
open PySem PySem.Spec PyProof.Rows
end Jg
namespace Jg
open PySem PySem.Spec PyProof.Rows L2
end Jg
namespace Jg
open PySem PySem.Spec PyProof.Rows L2
def okW (z : Str) : Prop := PyData.strOk z = true
end Jg
namespace Jg
open PySem PySem.Spec PyProof.Rows L2
end Jg
namespace Jg
open PySem PySem.Spec PyProof.Rows L2
end Jg
namespace Jg
open PySem PySem.Spec PyProof.Rows L2
end Jg
namespace Jg
open PySem PySem.Spec PyProof.Rows L2
end Jg
namespace Jg
open PySem PySem.Spec PyProof.Rows L2
end Jg
namespace Jg
open PySem PySem.Spec PyProof.Rows L2
/-- d weighs at most n and is at most k deep -/
structure Sb (d : PyData) (n k : Nat) : Prop where
  sh : d.showable = true
  lv : d.leavesShort 100 = true
  bk : d.bulk ≤ n
  dp : d.depth ≤ k
structure SbAll (ds : List PyData) (n k : Nat) : Prop where
  sh : PyData.showableAll ds = true
  lv : PyData.leavesShortAll 100 ds = true
  bk : PyData.bulkAll ds ≤ n
  dp : PyData.depthAll ds ≤ k
theorem Sb.str {z : Str} {n : Nat} (h : z.length ≤ n) (c : ∀ x ∈ z.cps.toList, x < 16 ^ 8) : Sb (.str z) n 0 :=
  ⟨by simp [PyData.showable], by simpa only [PyData.leavesShort, List.all_eq_true, decide_eq_true_eq] using c, h, by simp [PyData.depth]⟩
theorem Sb.int {i : Int} (h : i.natAbs < 10 ^ 9) : Sb (.int i) 0 0 := by
  have z := int_text_length_le10 (k := 9) (by decide) h
  have e : (PyData.int i).shown.length ≤ 100 := by
    show (Str.ofString (toString i)).length ≤ 100
    rw [PySem.ofString_length]
    omega
  refine ⟨?_, by simpa only [PyData.leavesShort, decide_eq_true_eq] using e, Nat.le_refl _, by simp [PyData.depth]⟩
  have l : i.natAbs.log2 < 1920 := Nat.lt_of_lt_of_le (PySem.Flt.log2_lt_of (k := 64) (by decide) (Nat.lt_of_lt_of_le h (by decide +kernel))) (by decide)
  simp [PyData.showable, l]
theorem Sb.non : Sb .none 0 0 := ⟨rfl, rfl, Nat.le_refl _, by simp [PyData.depth]⟩
theorem Sb.bl (b : Bool) : Sb (.bool b) 0 0 := ⟨rfl, rfl, Nat.le_refl _, by simp [PyData.depth]⟩
theorem Sb.mono {d : PyData} {n m k l : Nat} (h : Sb d n k) (h1 : n ≤ m) (h2 : k ≤ l) : Sb d m l := ⟨h.sh, h.lv, Nat.le_trans h.bk h1, Nat.le_trans h.dp h2⟩
theorem SbAll.mono {ds : List PyData} {n m k l : Nat} (h : SbAll ds n k) (h1 : n ≤ m) (h2 : k ≤ l) : SbAll ds m l := ⟨h.sh, h.lv, Nat.le_trans h.bk h1, Nat.le_trans h.dp h2⟩
theorem SbAll.nil {n k : Nat} : SbAll [] n k := ⟨rfl, rfl, Nat.zero_le _, Nat.zero_le _⟩
theorem SbAll.cons {d : PyData} {ds : List PyData} {n m k : Nat} (h1 : Sb d n k) (h2 : SbAll ds m k) : SbAll (d :: ds) (n + 1 + m) k :=
  ⟨by simp only [PyData.showableAll, h1.sh, h2.sh, Bool.and_true], by simp only [PyData.leavesShortAll, h1.lv, h2.lv, Bool.and_true], by
    have a := h1.bk
    have b := h2.bk
    simp only [PyData.bulkAll]; omega, by
    have a := h1.dp
    have b := h2.dp
    simp only [PyData.depthAll]; omega⟩
theorem SbAll.of {n k : Nat} : ∀ {ds : List PyData}, (∀ d ∈ ds, Sb d n k) → SbAll ds (ds.length * (n + 1)) k
  | [], _ => .nil
  | d :: ds, h => (SbAll.cons (h d (List.mem_cons_self ..)) (SbAll.of fun x hx => h x (List.mem_cons_of_mem _ hx))).mono (by rw [List.length_cons, Nat.add_mul]; omega) (Nat.le_refl _)
theorem SbAll.list {ds : List PyData} {n k : Nat} (h : SbAll ds n k) : Sb (.list ds) n (k + 1) :=
  ⟨by simp only [PyData.showable, h.sh], by simp only [PyData.leavesShort, h.lv], h.bk, by
    have a := h.dp
    simp only [PyData.depth]; omega⟩
theorem SbAll.tuple {ds : List PyData} {n k : Nat} (h : SbAll ds n k) : Sb (.tuple ds) n (k + 1) :=
  ⟨by simp only [PyData.showable, h.sh], by simp only [PyData.leavesShort, h.lv], h.bk, by
    have a := h.dp
    simp only [PyData.depth]; omega⟩
theorem sb_kv {n m k : Nat} : ∀ {kvs : List (PyData × PyData)}, (∀ p ∈ kvs, Sb p.1 n k ∧ Sb p.2 m k) → PyData.showableKv kvs = true ∧ PyData.leavesShortKv 100 kvs = true ∧ PyData.bulkKv kvs ≤ kvs.length * (n + m + 2) ∧ PyData.depthKv kvs ≤ k
  | [], _ => ⟨rfl, rfl, Nat.zero_le _, Nat.zero_le _⟩
  | (a, b) :: r, h => by
    obtain ⟨i1, i2, i3, i4⟩ := sb_kv (kvs := r) fun p hp => h p (List.mem_cons_of_mem _ hp)
    obtain ⟨h1, h2⟩ : Sb a n k ∧ Sb b m k := h (a, b) (List.mem_cons_self ..)
    refine ⟨by simp only [PyData.showableKv, h1.sh, h2.sh, i1, Bool.and_true], by simp only [PyData.leavesShortKv, h1.lv, h2.lv, i2, Bool.and_true], ?_, ?_⟩
    · have x := h1.bk
      have y := h2.bk
      simp only [PyData.bulkKv]
      rw [List.length_cons, Nat.add_mul]; omega
    · have x := h1.dp
      have y := h2.dp
      simp only [PyData.depthKv]; omega
theorem Sb.dict {kvs : List (PyData × PyData)} {n m k : Nat} (h : ∀ p ∈ kvs, Sb p.1 n k ∧ Sb p.2 m k) : Sb (.dict kvs) (kvs.length * (n + m + 2)) (k + 1) := by
  obtain ⟨i1, i2, i3, i4⟩ := sb_kv h
  exact ⟨by simp only [PyData.showable, i1], by simp only [PyData.leavesShort, i2], i3, by simp only [PyData.depth]; omega⟩
theorem Sb.len {d : PyData} {n k : Nat} (h : Sb d n k) (z : n ≤ 160000) : d.shown.length ≤ sizeLine := by
  have e := PyData.shown_le_bulk 100 (by decide) d h.lv
  have b := h.bk
  rw [sizeLine_eq]; omega
end Jg
namespace Jg
open PySem PySem.Spec PyProof.Rows L2
section
variable {P : Program} {w : World} {K : PySem.W.Frag}
def NkP (P : Program) (w : World) (a : Addr) : Heap → Prop := fun h => (a == sysModules) = false ∧ ∃ u, h.DictOf (noneKind P w) a [(none, u)]
abbrev NkO (P : Program) (w : World) (a : Addr) : HO := .ext (NkP P w a)
variable {X : Cx} {pins : List (Addr × Obj)} {σ : L2.St} {H : Hp} {s : Shared} {d : Addr} {o : Obj}
end
end Jg
namespace Jg
open PySem PySem.Spec PyProof.Rows L2
/-- a method with keyword-only parameters, as the top leaves it -/
structure MthK (K : PySem.W.Frag) (C : Addr) (m : Str) (qual : Str) (st : Stmt) (kws : List (Str × V)) : Prop where
  ex : ∃ f fd, FunD K m qual (defArgs st) (defBody st) (defScope st) [] kws f fd ∧ PySem.W.findIn K (.ref C) m = some (some (.ref f)) ∧ PySem.W.isFn K (.ref f) = true
theorem MthK.of {K : PySem.W.Frag} {C : Addr} {m qual : Str} {st : Stmt} {f : Addr} {oc : Value} {od an : Option Addr} {osl : Array (Option Value)} {kV doc pm cdv ct : Value} {kws : List (Str × V)}
    (a : PySem.W.findIn K (.ref C) m = some (some (.ref f))) (i : PySem.W.isFn K (.ref f) = true) (l : K.lookup f = some ⟨oc, od, .func (PySem.W.fnOf m qual (defArgs st) (defBody st) (defScope st) .none kV doc pm an cdv ct), osl⟩)
    (c : PySem.W.codeIn K cdv qual = true) (k : PySem.W.keepIn K (.ref f) = true) (kw : KwdV K kV kws) : MthK K C m qual st kws := ⟨f, _, ⟨⟨oc, od, .none, kV, doc, pm, an, cdv, ct, osl, rfl, l, c, .inl ⟨rfl, rfl⟩, kw⟩, k⟩, a, i⟩
end Jg
namespace Jg
open PySem PySem.Spec PyProof.Rows L2
def tlS (z : Str) : List Nat := z.cps.toList
theorem tlS_app (a b : Str) : tlS (a ++ b) = tlS a ++ tlS b := by unfold tlS; rw [Str.cps_append, Array.toList_append]
/-- prefix-unique: two of these shown, with something behind, are the same -/
def Cut (D : PyData → Prop) : Prop := ∀ d d' x y, D d → D d' → tlS d.shown ++ x = tlS d'.shown ++ y → d = d' ∧ x = y
theorem tl_join (ds : List PyData) : ∀ d, tlS (Str.join ", " (PyData.shownAll (d :: ds))) = tlS d.shown ++ (ds.flatMap fun e => 44 :: 32 :: tlS e.shown) := by
  induction ds with
  | nil => intro d; rw [PyData.shownAll_cons, PyData.shownAll_nil]; show tlS d.shown = _; simp
  | cons e r ih =>
    intro d
    rw [PyData.shownAll_cons, PyData.shownAll_cons]
    show tlS (d.shown ++ ", " ++ Str.join ", " (e.shown :: PyData.shownAll r)) = _
    rw [tlS_app, tlS_app, ← PyData.shownAll_cons, ih e, List.flatMap_cons]
    show tlS d.shown ++ [44, 32] ++ _ = _
    simp
theorem rest_cut {D : PyData → Prop} (c : Cut D) {b : Nat} (hb : b ≠ 44) : ∀ {ds es : List PyData} {x y : List Nat}, (∀ d ∈ ds, D d) → (∀ d ∈ es, D d) → (ds.flatMap fun e => 44 :: 32 :: tlS e.shown) ++ b :: x = (es.flatMap fun e => 44 :: 32 :: tlS e.shown) ++ b :: y → ds = es ∧ x = y
  | [], [], _, _, _, _, e => ⟨rfl, by injection e⟩
  | [], d :: es, _, _, _, _, e => by
    rw [List.flatMap_cons] at e
    injection e with e1 _
    exact absurd e1 hb
  | d :: ds, [], _, _, _, _, e => by
    rw [List.flatMap_cons] at e
    injection e with e1 _
    exact absurd e1.symm hb
  | d :: ds, d' :: es, x, y, h, h', e => by
    simp only [List.flatMap_cons, List.cons_append, List.append_assoc, List.cons.injEq, true_and] at e
    obtain ⟨a, e2⟩ := c d d' _ _ (h d List.mem_cons_self) (h' d' List.mem_cons_self) e
    obtain ⟨a2, b2⟩ := rest_cut c hb (fun q hq => h q (List.mem_cons_of_mem _ hq)) (fun q hq => h' q (List.mem_cons_of_mem _ hq)) e2
    exact ⟨by rw [a, a2], b2⟩
/-- what stands behind the head of a list: its end, or the rest -/
theorem seq_cut {D : PyData → Prop} (c : Cut D) (ne : ∀ d, D d → ∃ h t, tlS d.shown = h :: t ∧ h ≠ 93 ∧ h ≠ 41) {b : Nat} (hb : b = 93 ∨ b = 41) {ds es : List PyData} {x y : List Nat} (h : ∀ d ∈ ds, D d) (h' : ∀ d ∈ es, D d)
    (e : tlS (Str.join ", " (PyData.shownAll ds)) ++ b :: x = tlS (Str.join ", " (PyData.shownAll es)) ++ b :: y) : ds = es ∧ x = y := by
  have b44 : b ≠ 44 := by omega
  match ds, es with
  | [], [] =>
    rw [PyData.shownAll_nil] at e
    exact ⟨rfl, (List.cons.inj e).2⟩
  | [], d :: r =>
    rw [tl_join] at e
    obtain ⟨p, t, ep, n1, n2⟩ := ne d (h' d List.mem_cons_self)
    rw [ep] at e
    have z := (List.cons.inj e).1
    omega
  | d :: r, [] =>
    rw [tl_join] at e
    obtain ⟨p, t, ep, n1, n2⟩ := ne d (h d List.mem_cons_self)
    rw [ep] at e
    have z := (List.cons.inj e).1
    omega
  | d :: r, d' :: r' =>
    rw [tl_join, tl_join, List.append_assoc, List.append_assoc] at e
    obtain ⟨a, e2⟩ := c d d' _ _ (h d List.mem_cons_self) (h' d' List.mem_cons_self) e
    obtain ⟨a2, b2⟩ := rest_cut c b44 (fun q hq => h q (List.mem_cons_of_mem _ hq)) (fun q hq => h' q (List.mem_cons_of_mem _ hq)) e2
    exact ⟨by rw [a, a2], b2⟩
theorem tl_list (ds : List PyData) : tlS (PyData.list ds).shown = 91 :: (tlS (Str.join ", " (PyData.shownAll ds)) ++ [93]) := by
  rw [PyData.shown_list, tlS_app, tlS_app]
  show [91] ++ _ ++ [93] = _
  simp
/-- a list of such is such -/
theorem Cut.list {D : PyData → Prop} (c : Cut D) (ne : ∀ d, D d → ∃ h t, tlS d.shown = h :: t ∧ h ≠ 93 ∧ h ≠ 41) : Cut (fun d => ∃ ds, d = PyData.list ds ∧ ∀ x ∈ ds, D x) := by
  rintro _ _ x y ⟨ds, rfl, h⟩ ⟨es, rfl, h'⟩ e
  rw [tl_list, tl_list, List.cons_append, List.cons_append, List.append_assoc, List.append_assoc] at e
  obtain ⟨a, b⟩ := seq_cut c ne (.inl rfl) h h' (List.cons.inj e).2
  exact ⟨by rw [a], b⟩
end Jg
namespace Jg
open PySem PySem.Spec PyProof.Rows L2
end Jg
namespace K26C
open PySem PySem.Spec PyProof.Rows L2 Jg
def top (i : Nat) : Stmt := PySem.Challenge.pw_gaplesskeys_k26_runs_that_jump.main.body.getD i (.Pass ⟨0, 0, 0, 0⟩)
structure Txt (K : PySem.W.Frag) (mg : Str → Option Value) : Prop where
  b_isinstance : mg "isinstance" = none
  b_int : mg "int" = none
  b_bool : mg "bool" = none
  b_str : mg "str" = none
  b_list : mg "list" = none
  b_tuple : mg "tuple" = none
  b_dict : mg "dict" = none
  b_len : mg "len" = none
  b_all : mg "all" = none
  b_any : mg "any" = none
  b_set : mg "set" = none
  b_sorted : mg "sorted" = none
  b_max : mg "max" = none
  b_min : mg "min" = none
  b_range : mg "range" = none
  b_repr : mg "repr" = none
  b_sum : mg "sum" = none
  g_MOST_ROLES : ∃ u, mg "_MOST_ROLES" = some u ∧ L2.RelV (.int 3) u
  g_MOST_ACCEPTED : ∃ u, mg "_MOST_ACCEPTED" = some u ∧ L2.RelV (.int 8) u
  g_MOST_VOUCHERS : ∃ u, mg "_MOST_VOUCHERS" = some u ∧ L2.RelV (.int 4) u
  g_MOST_NEEDED : ∃ u, mg "_MOST_NEEDED" = some u ∧ L2.RelV (.int 4) u
abbrev kit (K : PySem.W.Frag) (t : Value) (n : String) (b : Bool) : Prop := PySem.W.kitOne K t (.type n) = some b
def wordB (z : Str) : Bool := decide (z.length ≤ 8) && (PySem.Txt.isascii z && (PySem.Txt.isalpha z && PySem.Txt.islower z))
def flagV (x : V) : Bool := match x with | .str z => wordB z | _ => false
def txV (x : V) : Str := match x with | .str z => z | _ => Str.empty
/-- what may stand in a list that is asked for keys -/
def ItOk (K : PySem.W.Frag) (H : Hp) (x : V) : Prop := (∃ z, x = .str z ∧ z.length ≤ sizeLine) ∨ (∃ t, (∀ H', Same H H' → TyX K H' x t) ∧ kit K t "str" false ∧ ∀ z, x ≠ .str z)
theorem ItOk.keep {K : PySem.W.Frag} {H H' : Hp} {x : V} (h : ItOk K H x) (s : Same H H') : ItOk K H' x := h.elim .inl fun ⟨t, ty, k⟩ => .inr ⟨t, fun H2 s2 => ty H2 (s.trans s2), k⟩
theorem same_tup {K : PySem.W.Frag} {H H' : Hp} {a : Addr} {xs : List V} (e : Same H H') (h : SqT K H a xs) : SqT K H' a xs := by
  rcases h with (h | ⟨o, h⟩) | h
  · exact .inl (.inl (e _ _ h))
  · exact .inl (.inr ⟨o, e _ _ h⟩)
  · exact .inr h
theorem SqE.keep {K : PySem.W.Frag} {b : Bool} {H H' : Hp} {a : Addr} {xs : List V} (h : SqE K b H a xs) (s : Same H H') : SqE K b H' a xs := by
  cases b with
  | true => exact s.seq h
  | false => exact same_tup s h
def keysB (xs : List V) (most : Int) : Bool := !decide (most < (xs.length : Int)) && (xs.all flagV && decide ((onceW (xs.map txV)).length = xs.length))
def spKeys (K : PySem.W.Frag) : Sp := fun vs H Q _ => ∃ y most, vs = [y, .int most] ∧
  ((∃ a b xs, y = .ref a ∧ SqE K b H a xs ∧ (∀ H', Same H H' → TyX K H' y (.type (if b then "list" else "tuple"))) ∧ xs.length ≤ 500 ∧ (∀ x ∈ xs, ItOk K H x) ∧ ∀ H', Same H H' → Q (.bl (keysB xs most)) H') ∨ (∃ t, (∀ H', Same H H' → TyX K H' y t) ∧ kit K t "list" false ∧ kit K t "tuple" false ∧ ∀ H', Same H H' → Q (.bl false) H'))
section
variable {P : Program} {w : World} {K : PySem.W.Frag} {mg : Str → Option Value} {base : Heap}
abbrev s_is_integer : Stmt := top 15
abbrev s_is_word : Stmt := top 21
abbrev s_in_order : Stmt := top 32
abbrev s_are_different_keys : Stmt := top 22
end
end K26C
namespace K26C
open PySem PySem.Spec PyProof.Rows L2 Jg
/-- y is asked for keys: fl is the answer, now and later -/
def KeysIs (K : PySem.W.Frag) (H : Hp) (y : V) (most : Int) (fl : Bool) : Prop := ∀ (H' : Hp) (Q : VK), Same H H' → (∀ H2, Same H' H2 → Q (.bl fl) H2) → spKeys K [y, .int most] H' Q E0
def WordIs (K : PySem.W.Frag) (H : Hp) (y : V) (fl : Bool) : Prop := (∃ z, y = .str z ∧ z.length ≤ sizeLine ∧ fl = wordB z) ∨ (fl = false ∧ ∃ t, (∀ H', Same H H' → TyX K H' y t) ∧ kit K t "str" false)
theorem WordIs.keep {K : PySem.W.Frag} {H H' : Hp} {y : V} {fl : Bool} (h : WordIs K H y fl) (s : Same H H') : WordIs K H' y fl := h.elim .inl fun ⟨e, t, ty, k⟩ => .inr ⟨e, t, fun H2 s2 => ty H2 (s.trans s2), k⟩
theorem KeysIs.keep {K : PySem.W.Frag} {H H' : Hp} {y : V} {m : Int} {fl : Bool} (h : KeysIs K H y m fl) (s : Same H H') : KeysIs K H' y m fl := fun H2 Q s2 q => h H2 Q (s.trans s2) q
@[irreducible] def spKeysI (K : PySem.W.Frag) : Sp := spKeys K
theorem KeysIs.i {K : PySem.W.Frag} {H : Hp} {y : V} {m : Int} {fl : Bool} (h : KeysIs K H y m fl) (H' : Hp) (Q : VK) (s : Same H H') (q : ∀ H2, Same H' H2 → Q (.bl fl) H2) : spKeysI K [y, .int m] H' Q E0 := by
  unfold spKeysI
  exact h H' Q s q
def spUse (K : PySem.W.Frag) : Sp := fun vs H Q _ => ∃ y, vs = [y] ∧
  ((∃ t, TyX K H y t ∧ kit K t "tuple" false ∧ Q (.bl false) H) ∨
   (∃ tp xs, y = .ref tp ∧ H tp = some (.tup xs) ∧ xs.length ≠ 2 ∧ Q (.bl false) H) ∨
   (∃ tp a u fa fu, y = .ref tp ∧ H tp = some (.tup [a, u]) ∧ KeysIs K H a 8 fa ∧ WordIs K H u fu ∧ ∀ H', Same H H' → Q (.bl (fa && fu)) H'))
section
variable {P : Program} {w : World} {K : PySem.W.Frag} {mg : Str → Option Value} {base : Heap}
abbrev s_is_use : Stmt := top 29
end
end K26C
namespace K26C
open PySem PySem.Spec PyProof.Rows L2 Jg
/-- all stays, but what stands at d -/
def SameB (d : Addr) (H H' : Hp) : Prop := ∀ q o, H q = some o → q ≠ d → H' q = some o
/-- a role and its use -/
structure Row where
  z : Str
  t : Addr
  a : Addr
  b : Bool
  ks : List Str
  u : Str
def UseB (K : PySem.W.Frag) (d : Addr) (H : Hp) (y : V) (fl : Bool) : Prop := ∀ (H' : Hp) (Q : VK), SameB d H H' → (∀ H2, Same H' H2 → Q (.bl fl) H2) → spUse K [y] H' Q E0
@[irreducible] def spUseI (K : PySem.W.Frag) : Sp := spUse K
theorem UseB.i {K : PySem.W.Frag} {d : Addr} {H : Hp} {y : V} {fl : Bool} (h : UseB K d H y fl) (H' : Hp) (Q : VK) (s : SameB d H H') (q : ∀ H2, Same H' H2 → Q (.bl fl) H2) : spUseI K [y] H' Q E0 := by
  unfold spUseI
  exact h H' Q s q
/-- an entry of a dict that is asked for roles, and the answer about it -/
def EntB (K : PySem.W.Frag) (d : Addr) (H : Hp) (e : Key × V) (fl : Bool) : Prop := (∃ z, e.1 = .inr z ∧ z.length ≤ sizeLine ∧ ((wordB z = false ∧ fl = false) ∨ (wordB z = true ∧ UseB K d H e.2 fl))) ∨ (∃ i, e.1 = .inl i ∧ fl = false)
theorem EntB.keep {K : PySem.W.Frag} {d : Addr} {H H' : Hp} {e : Key × V} {fl : Bool} (h : EntB K d H e fl) (s : SameB d H H') : EntB K d H' e fl := by
  rcases h with ⟨z, a, b, c | ⟨c, u⟩⟩ | h
  · exact .inl ⟨z, a, b, .inl c⟩
  · exact .inl ⟨z, a, b, .inr ⟨c, fun H2 Q s2 q => u H2 Q (fun b o e n => s2 b o (s b o e n) n) q⟩⟩
  · exact .inr h
def spRoles (P : Program) (w : World) (K : PySem.W.Frag) : Sp := fun vs H Q _ => ∃ y, vs = [y] ∧
  ((∃ t, TyX K H y t ∧ kit K t "dict" false ∧ Q (.bl false) H) ∨
   (∃ d kvs, y = .ref d ∧ H d = some (.dK kvs) ∧ (kvs.length < 1 ∨ 3 < kvs.length) ∧ Q (.bl false) H) ∨
   (∃ d kvs, ∃ fs : List Bool, y = .ref d ∧ H d = some (.dK kvs) ∧ 1 ≤ kvs.length ∧ kvs.length ≤ 3 ∧ (kvs.map (·.1)).Nodup ∧ Paired (EntB K d H) kvs fs ∧ ∀ H', Same H H' → Q (.bl (fs.all id)) H') ∨
   (∃ d, y = .ref d ∧ H d = some (NkO P w d) ∧ ∀ H', Same H H' → Q (.bl false) H'))
section
variable {P : Program} {w : World} {K : PySem.W.Frag} {mg : Str → Option Value} {base : Heap}
abbrev s_are_roles : Stmt := top 30
end
end K26C
namespace K26C
open PySem PySem.Spec PyProof.Rows L2 Jg
def RolesIs (P : Program) (w : World) (K : PySem.W.Frag) (H : Hp) (y : V) (fl : Bool) : Prop := ∀ (H' : Hp) (Q : VK), Same H H' → (∀ H2, Same H' H2 → Q (.bl fl) H2) → spRoles P w K [y] H' Q E0
/-- what is asked of needed -/
def NeedIs (K : PySem.W.Frag) (H : Hp) (y : V) (fl : Bool) : Prop := (∃ i, y = .int i ∧ fl = (decide (0 ≤ i) && decide (i ≤ 4))) ∨ (fl = false ∧ ∃ t b1 b2, (∀ H', Same H H' → TyX K H' y t) ∧ kit K t "int" b1 ∧ (b1 = true → kit K t "bool" b2) ∧ (b1 && !b2) = false)
@[irreducible] def spRolesI (P : Program) (w : World) (K : PySem.W.Frag) : Sp := spRoles P w K
theorem RolesIs.i {P : Program} {w : World} {K : PySem.W.Frag} {H : Hp} {y : V} {fl : Bool} (h : RolesIs P w K H y fl) (H' : Hp) (Q : VK) (s : Same H H') (q : ∀ H2, Same H' H2 → Q (.bl fl) H2) : spRolesI P w K [y] H' Q E0 := by
  unfold spRolesI
  exact h H' Q s q
section
variable {P : Program} {w : World} {K : PySem.W.Frag} {mg : Str → Option Value} {base : Heap}
abbrev s_wrong_part : Stmt := top 31
end
end K26C
namespace K26C
open PySem PySem.Spec PyProof.Rows L2 Jg
structure ExnQ (K : PySem.W.Frag) (mg : Str → Option Value) (x : Str) (CI : Addr) (qual : Str) (st : Stmt) (f : Str) : Prop where
  mg_ : mg x = some (.ref CI)
  ovr : Ovr K CI
  xk : ExcK K CI
  no : PySem.W.findIn K (.ref CI) f = some none
  ini : ∃ fI fd, Fun K "__init__" qual st fI fd ∧ PySem.W.findIn K (.ref CI) "__init__" = some (some (.ref fI)) ∧ PySem.W.typeIn K (.ref fI) = some (.type "function")
  te : PySem.W.exmOne K (.ref CI) (.ref CI) = some true
structure KL where
  a : Addr
  b : Bool
  ks : List Str
structure KLOk (K : PySem.W.Frag) (H : Hp) (l : KL) : Prop where
  sq : SqE K l.b H l.a (l.ks.map V.str)
  ty : ∀ H', Same H H' → TyX K H' (.ref l.a) (.type (if l.b then "list" else "tuple"))
  few : l.ks.length ≤ 500
  sh : ∀ k ∈ l.ks, k.length ≤ sizeLine
theorem KLOk.keep {K : PySem.W.Frag} {H H' : Hp} {l : KL} (h : KLOk K H l) (s : Same H H') : KLOk K H' l := ⟨SqE.keep h.sq s, fun H2 s2 => h.ty H2 (s.trans s2), h.few, h.sh⟩
theorem NeedIs.keep {K : PySem.W.Frag} {H H' : Hp} {y : V} {fl : Bool} (h : NeedIs K H y fl) (s : Same H H') : NeedIs K H' y fl := h.imp id fun ⟨e, t, b1, b2, ty, r⟩ => ⟨e, t, b1, b2, fun H2 s2 => ty H2 (s.trans s2), r⟩
structure Use where
  z : Str
  t : Addr
  a : Addr
  ks : List Str
  u : Str
def dictU (us : List Use) : List (Key × V) := us.map fun r => (Sum.inr r.z, V.ref r.t)
structure UAt (S : Addr → Prop) (H : Hp) (r : Use) : Prop where
  tp : H r.t = some (.tup [.ref r.a, .str r.u])
  ls : H r.a = some (.lst (r.ks.map V.str))
  st : S r.t
  sa : S r.a
structure Ct where
  us : List Use
  vo : List Str
  ne : Int
  si : List Str
def cflds (d v : Addr) (n : Int) (s : Addr) : List (Str × V) := [("_uses", .ref d), ("_vouchers", .ref v), ("_needed", .int n), ("_signers", .ref s)]
structure CAt (S : Addr → Prop) (C : Addr) (H : Hp) (x : Addr) (c : Ct) : Prop where
  ex : ∃ dx d v s, H x = some (.ins C dx (cflds d v c.ne s)) ∧ H d = some (.dK (dictU c.us)) ∧ H v = some (.lst (c.vo.map V.str)) ∧ H s = some (.lst (c.si.map V.str)) ∧ S x ∧ S d ∧ S v ∧ S s
  uses : ∀ r ∈ c.us, UAt S H r
structure KsOk (ks : List Str) (m : Nat) : Prop where
  nd : ks.Nodup
  so : sortedS ks = true
  le : ks.length ≤ m
  w : ∀ k ∈ ks, wordB k = true
structure CtOk (c : Ct) : Prop where
  n1 : 1 ≤ c.us.length
  n3 : c.us.length ≤ 3
  nd : (c.us.map (·.z)).Nodup
  so : sortedS (c.us.map (·.z)) = true
  us : ∀ r ∈ c.us, KsOk r.ks 8 ∧ wordB r.z = true ∧ wordB r.u = true
  vo : KsOk c.vo 4
  si : KsOk c.si 4
  ne : 0 ≤ c.ne ∧ c.ne ≤ 4
theorem CAt.keep {S : Addr → Prop} {C : Addr} {H H' : Hp} {x : Addr} {c : Ct} (h : CAt S C H x c) (s : ∀ q o, H q = some o → S q → H' q = some o) : CAt S C H' x c := by
  obtain ⟨⟨dx, d, v, sg, e1, e2, e3, e4, k1, k2, k3, k4⟩, us⟩ := h
  exact ⟨⟨dx, d, v, sg, s _ _ e1 k1, s _ _ e2 k2, s _ _ e3 k3, s _ _ e4 k4, k1, k2, k3, k4⟩, fun r hr => ⟨s _ _ (us r hr).tp (us r hr).st, s _ _ (us r hr).ls (us r hr).sa, (us r hr).st, (us r hr).sa⟩⟩
theorem CAt.same {S : Addr → Prop} {C : Addr} {H H' : Hp} {x : Addr} {c : Ct} (h : CAt S C H x c) (s : Same H H') : CAt S C H' x c := h.keep fun q o e _ => s q o e
/-- the class's facts -/
structure CTx (K : PySem.W.Frag) (mg : Str → Option Value) (C : Addr) : Prop where
  cl : Cls K C
  cC : mg "Contents" = some (.ref C)
  cls_ : PySem.W.findIn K (.ref C) "__class__" = some (some (.builtin "object.__class__"))
  cgt : PySem.W.specialIn K (.builtin "object.__class__") "__get__" = some (some (.builtin "getset_descriptor.__get__"))
  ctk : PySem.W.takesIn K (.builtin "object.__class__") = some true
  mro : PySem.W.mroIn K C (.type "object") = some true
  ne : PySem.W.findIn K (.ref C) "__ne__" = some (some (.builtin "object.__ne__"))
  kCC : PySem.W.kitOne K (.ref C) (.ref C) = some true
  kN : PySem.W.kitOne K (.type "NoneType") (.ref C) = some false
  kI : PySem.W.kitOne K (.type "int") (.ref C) = some false
  kS : PySem.W.kitOne K (.type "str") (.ref C) = some false
  kL : PySem.W.kitOne K (.type "list") (.ref C) = some false
  kT : PySem.W.kitOne K (.type "tuple") (.ref C) = some false
  kD : PySem.W.kitOne K (.type "dict") (.ref C) = some false
  oCC : PySem.W.notFirst K C (.ref C) = true
  oN : PySem.W.notFirst K C (.type "NoneType") = true
  oI : PySem.W.notFirst K C (.type "int") = true
  oS : PySem.W.notFirst K C (.type "str") = true
  oL : PySem.W.notFirst K C (.type "list") = true
  oT : PySem.W.notFirst K C (.type "tuple") = true
  oD : PySem.W.notFirst K C (.type "dict") = true
  nu : NoAttr K C "_uses"
  nv : NoAttr K C "_vouchers"
  nn : NoAttr K C "_needed"
  ns : NoAttr K C "_signers"
section
variable {P : Program} {w : World} {K : PySem.W.Frag} {mg : Str → Option Value} {base : Heap} {C CI : Addr}
abbrev s_InvalidContents_init : Stmt := inClass (top 5) 0
abbrev s_Contents_init : Stmt := inClass (top 33) 0
end
end K26C
namespace K26C
open PySem PySem.Spec PyProof.Rows L2 Jg
theorem SameB.trans {p : Addr} {H H1 H2 : Hp} (a : SameB p H H1) (b : SameB p H1 H2) : SameB p H H2 := fun q o e n => b q o (a q o e n) n
theorem SameB.of {p : Addr} {H H1 : Hp} (a : Same H H1) : SameB p H H1 := fun q o e _ => a q o e
theorem SameB.out {p : Addr} {H H1 H2 : Hp} (a : Same H H1) (b : SameB p H1 H2) (n : H p = none) : Same H H2 := fun q o e => b q o (a q o e) (ne_of_none e n)
def StA (H : Hp) (p : Addr) : Prop := ∃ a b, H p = some (.lst [.int a, .int b]) ∧ 0 ≤ a
theorem StA.ne {H : Hp} {p l : Addr} (h : StA H p) (n : H l = none) : l ≠ p := fun z => by
  obtain ⟨a, b, e, _⟩ := h
  rw [z, e] at n
  cases n
def AZ (z : Str) : Prop := ∀ c ∈ z.cps.toList, 97 ≤ c ∧ c ≤ 122
theorem az_sign : ∀ c : Nat, 97 ≤ c → c ≤ 122 → (Unicode.isAlpha c && (Unicode.isLower c && (!Unicode.isUpper c && !Unicode.isTitle c))) = true := by
  intro c h1 h2
  have h : ∀ d ∈ (List.range 26).map (97 + ·), (Unicode.isAlpha d && (Unicode.isLower d && (!Unicode.isUpper d && !Unicode.isTitle d))) = true := by decide +kernel
  exact h c (List.mem_map.mpr ⟨c - 97, List.mem_range.mpr (by omega), by show 97 + (c - 97) = c; omega⟩)
theorem az_all {z : Str} {p : Nat → Bool} (h : AZ z) (hp : ∀ c, 97 ≤ c → c ≤ 122 → p c = true) : z.cps.all p = true := by
  rw [← Array.all_toList]
  exact List.all_eq_true.mpr fun c hc => hp c (h c hc).1 (h c hc).2
theorem az_word {z : Str} (h : AZ z) (h1 : 1 ≤ z.length) (h8 : z.length ≤ 8) : wordB z = true := by
  have pos : 0 < z.cps.toList.length := by
    have e : z.length = z.cps.size := rfl
    rw [Array.length_toList]; omega
  have ha : PySem.Txt.isascii z = true := az_all h fun c _ _ => decide_eq_true (by omega)
  have hb : PySem.Txt.isalpha z = true := by
    unfold PySem.Txt.isalpha
    rw [az_all h fun c h1 h2 => (Bool.and_eq_true_iff.mp (az_sign c h1 h2)).1, Bool.and_true]
    exact decide_eq_true (by omega)
  have hc : PySem.Txt.islower z = true := by
    unfold PySem.Txt.islower
    have k1 : z.cps.any Unicode.isLower = true := by
      rw [← Array.any_toList]
      have m : z.cps.toList[0] ∈ z.cps.toList := List.getElem_mem pos
      exact List.any_eq_true.mpr ⟨_, m, (Bool.and_eq_true_iff.mp (Bool.and_eq_true_iff.mp (az_sign _ (h _ m).1 (h _ m).2)).2).1⟩
    have k2 : (z.cps.any fun c => Unicode.isUpper c || Unicode.isTitle c) = false := by
      rw [← Array.any_toList, List.any_eq_false]
      intro c hc
      have z4 := (Bool.and_eq_true_iff.mp (Bool.and_eq_true_iff.mp (az_sign _ (h _ hc).1 (h _ hc).2)).2).2
      obtain ⟨u1, u2⟩ := Bool.and_eq_true_iff.mp z4
      rw [Bool.not_eq_true'] at u1 u2
      rw [u1, u2]; simp
    rw [k1, k2]; rfl
  unfold wordB
  rw [decide_eq_true h8, ha, hb, hc]; rfl
/-- a word -/
def Wd (z : Str) : Prop := AZ z ∧ 1 ≤ z.length ∧ z.length ≤ 7
theorem Wd.ok {z : Str} (h : Wd z) : z.length ≤ sizeLine ∧ wordB z = true := ⟨by rw [sizeLine_eq]; have := h.2.2; omega, az_word h.1 h.2.1 (Nat.le_succ_of_le h.2.2)⟩
section
variable {P : Program} {w : World} {K : PySem.W.Frag} {mg : Str → Option Value} {base : Heap}
abbrev s_law_stream : Stmt := top 71
abbrev s_law_draw : Stmt := top 72
abbrev s_law_choose : Stmt := top 73
abbrev s_law_words : Stmt := top 75
end
end K26C
namespace K26C
open PySem PySem.Spec PyProof.Rows L2 Jg
/-- no role of these contents -/
def NoRole (K : PySem.W.Frag) (H : Hp) (c : Ct) (y : V) : Prop := (∃ z, y = .str z ∧ z.length ≤ sizeLine ∧ z ∉ c.us.map (·.z)) ∨ ∃ t, (∀ H', Same H H' → TyX K H' y t) ∧ kit K t "str" false
theorem NoRole.keep {K : PySem.W.Frag} {H H' : Hp} {c : Ct} {y : V} (h : NoRole K H c y) (s : Same H H') : NoRole K H' c y := h.imp id fun ⟨t, ty, k⟩ => ⟨t, fun H2 s2 => ty H2 (s.trans s2), k⟩
section
variable {P : Program} {w : World} {K : PySem.W.Frag} {mg : Str → Option Value} {base : Heap} {C CU : Addr}
abbrev s_UnknownName_init : Stmt := inClass (top 9) 0
abbrev s_Contents_roles : Stmt := inClass (top 33) 1
end
end K26C
namespace K26C
open PySem PySem.Spec PyProof.Rows L2 Jg
theorem StA.no {H : Hp} {p l : Addr} {o : HO} (h : StA H p) (e : H l = some o) (n : ∀ a b : Int, o ≠ .lst [.int a, .int b]) : l ≠ p := fun z => by
  obtain ⟨a, b, e2, _⟩ := h
  rw [z, e2] at e
  exact n a b (Option.some.inj e).symm
theorem strs_no {ws : List Str} (a b : Int) : HO.lst (ws.map V.str) ≠ .lst [.int a, .int b] := fun z => by
  injection z with z
  cases ws with
  | nil => cases z
  | cons x r => injection z with z1 z2; cases z1
theorem refs_no {ws : List Addr} (a b : Int) : HO.lst (ws.map V.ref) ≠ .lst [.int a, .int b] := fun z => by
  injection z with z
  cases ws with
  | nil => cases z
  | cons x r => injection z with z1 z2; cases z1
theorem StA.keep {H H' : Hp} {p : Addr} (h : StA H p) (s : Same H H') : StA H' p := by
  obtain ⟨a, b, e, z⟩ := h
  exact ⟨a, b, s _ _ e, z⟩
theorem StA.neS {H : Hp} {p l : Addr} {ws : List Str} (h : StA H p) (e : H l = some (.lst (ws.map V.str))) : l ≠ p := h.no e strs_no
structure TRow (H : Hp) (r : Use) : Prop where
  tp : H r.t = some (.tup [.str r.z, .ref r.a, .str r.u])
  ls : H r.a = some (.lst (r.ks.map V.str))
structure Td where
  rows : List Use
  vo : List Str
  le : Int
  sg : Option (List Str)
/-- signers as they are given -/
def SgAt (H : Hp) (sv : V) : Option (List Str) → Prop
  | none => sv = .non
  | some ks => ∃ l, sv = .ref l ∧ H l = some (.lst (ks.map V.str))
structure TdAt (H : Hp) (q : Addr) (d : Td) : Prop where
  ex : ∃ lr lv sv, H q = some (.tup [.ref lr, .ref lv, .int d.le, sv]) ∧ H lr = some (.lst ((d.rows.map (·.t)).map V.ref)) ∧ H lv = some (.lst (d.vo.map V.str)) ∧ SgAt H sv d.sg
  rows : ∀ r ∈ d.rows, TRow H r
theorem TRow.keep {H H' : Hp} {p : Addr} {r : Use} (h : TRow H r) (st : StA H p) (s : SameB p H H') : TRow H' r :=
  ⟨s _ _ h.tp (st.no h.tp fun _ _ z => nomatch z), s _ _ h.ls (st.neS h.ls)⟩
theorem SgAt.keep {H H' : Hp} {p : Addr} {sv : V} {o : Option (List Str)} (h : SgAt H sv o) (st : StA H p) (s : SameB p H H') : SgAt H' sv o := by
  cases o with
  | none => exact h
  | some ks =>
    obtain ⟨l, e, h⟩ := h
    exact ⟨l, e, s _ _ h (st.neS h)⟩
theorem TdAt.keep {H H' : Hp} {p q : Addr} {d : Td} (h : TdAt H q d) (st : StA H p) (s : SameB p H H') : TdAt H' q d := by
  obtain ⟨⟨lr, lv, sv, e1, e2, e3, e4⟩, rs⟩ := h
  exact ⟨⟨lr, lv, sv, s _ _ e1 (st.no e1 fun _ _ z => nomatch z), s _ _ e2 (st.no e2 refs_no), s _ _ e3 (st.neS e3), e4.keep st s⟩, fun r hr => (rs r hr).keep st s⟩
theorem TdAt.same {H H' : Hp} {q : Addr} {d : Td} (h : TdAt H q d) (s : Same H H') : TdAt H' q d := by
  obtain ⟨⟨lr, lv, sv, e1, e2, e3, e4⟩, rs⟩ := h
  refine ⟨⟨lr, lv, sv, s _ _ e1, s _ _ e2, s _ _ e3, ?_⟩, fun r hr => ⟨s _ _ (rs r hr).tp, s _ _ (rs r hr).ls⟩⟩
  cases e : d.sg with
  | none => rw [e] at e4; exact e4
  | some ks =>
    rw [e] at e4
    obtain ⟨l, el, h⟩ := e4
    exact ⟨l, el, s _ _ h⟩
/-- drawn from these words -/
structure TdOk (parts keys hands : List Str) (d : Td) : Prop where
  zs : d.rows.map (·.z) = parts
  rows : ∀ r ∈ d.rows, r.u ∈ keys ∧ r.ks.Nodup ∧ ∀ k ∈ r.ks, k ∈ keys
  vo : d.vo.Sublist hands
  le : 0 ≤ d.le ∧ d.le < 3
  sg : ∀ ks, d.sg = some ks → ks.Sublist hands
section
variable {P : Program} {w : World} {K : PySem.W.Frag} {mg : Str → Option Value} {base : Heap}
abbrev s_law_some : Stmt := top 74
abbrev s_law_told : Stmt := top 78
end
end K26C
namespace K26C
open PySem PySem.Spec PyProof.Rows L2 Jg
structure Sb (hs ks : List Str) : Prop where
  nd : ks.Nodup
  sub : ∀ k ∈ ks, k ∈ hs
theorem nd_len : ∀ {ks hs : List Str}, ks.Nodup → (∀ k ∈ ks, k ∈ hs) → ks.length ≤ hs.length
  | [], _, _, _ => Nat.zero_le _
  | k :: r, hs, nd, sub => by
    rw [List.nodup_cons] at nd
    have h1 := sub k List.mem_cons_self
    have h2 : ∀ x ∈ r, x ∈ hs.erase k := fun x hx => (List.mem_erase_of_ne (fun e => nd.1 (by rw [← e]; exact hx))).mpr (sub x (List.mem_cons_of_mem _ hx))
    have h3 := nd_len nd.2 h2
    rw [List.length_erase_of_mem h1] at h3
    have h4 := List.length_pos_of_mem h1
    rw [List.length_cons]; omega
theorem Sb.len {hs ks : List Str} (h : Sb hs ks) : ks.length ≤ hs.length := nd_len h.nd h.sub
structure TdG (parts keys hands : List Str) (d : Td) : Prop where
  zs : d.rows.map (·.z) = parts
  rows : ∀ r ∈ d.rows, r.u ∈ keys ∧ Sb keys r.ks
  vo : Sb hands d.vo
  le : 0 ≤ d.le ∧ d.le ≤ 4
  sg : ∀ ks, d.sg = some ks → Sb hands ks
theorem TdOk.g {parts keys hands : List Str} {d : Td} (h : TdOk parts keys hands d) (hn : hands.Nodup) : TdG parts keys hands d :=
  ⟨h.zs, fun r hr => ⟨(h.rows r hr).1, (h.rows r hr).2.1, (h.rows r hr).2.2⟩, ⟨hn.sublist h.vo, fun k hk => h.vo.subset hk⟩, ⟨h.le.1, by have := h.le.2; omega⟩, fun ks e => ⟨hn.sublist (h.sg ks e), fun k hk => (h.sg ks e).subset hk⟩⟩
section
variable {P : Program} {w : World} {K : PySem.W.Frag} {mg : Str → Option Value} {base : Heap}
abbrev s_law_turned : Stmt := top 79
abbrev s_law_next : Stmt := top 80
end
end K26C
namespace K26C
open PySem PySem.Spec PyProof.Rows L2 Jg
def hid (M : List Addr) (H : Hp) : Hp := fun q => if q ∈ M then none else H q
theorem hid_in {M : List Addr} {H : Hp} {q : Addr} {o : HO} (h : H q = some o) (n : q ∉ M) : hid M H q = some o := by unfold hid; rw [if_neg n]; exact h
theorem hid_get {M : List Addr} {H : Hp} {q : Addr} {o : HO} (h : hid M H q = some o) : H q = some o ∧ q ∉ M := by
  unfold hid at h
  by_cases c : q ∈ M
  · rw [if_pos c] at h; cases h
  · rw [if_neg c] at h; exact ⟨h, c⟩
inductive TdsAt (parts keys hands : List Str) (H : Hp) : List Addr → List Td → Prop
  | nil : TdsAt parts keys hands H [] []
  | cons {q : Addr} {d : Td} {qs : List Addr} {ds : List Td} : TdAt H q d → TdG parts keys hands d → TdsAt parts keys hands H qs ds → TdsAt parts keys hands H (q :: qs) (d :: ds)
theorem TdsAt.keep {parts keys hands : List Str} {H H' : Hp} {p : Addr} (st : StA H p) (s : SameB p H H') : ∀ {qs : List Addr} {ds : List Td}, TdsAt parts keys hands H qs ds → TdsAt parts keys hands H' qs ds
  | _, _, .nil => .nil
  | _, _, .cons a g r => .cons (a.keep st s) g (r.keep st s)
theorem TdsAt.same {parts keys hands : List Str} {H H' : Hp} (s : Same H H') : ∀ {qs : List Addr} {ds : List Td}, TdsAt parts keys hands H qs ds → TdsAt parts keys hands H' qs ds
  | _, _, .nil => .nil
  | _, _, .cons a g r => .cons (a.same s) g (r.same s)
theorem TdsAt.at_ {parts keys hands : List Str} {H : Hp} : ∀ {qs : List Addr} {ds : List Td} {i : Nat} {q : Addr}, TdsAt parts keys hands H qs ds → qs[i]? = some q → ∃ d, ds[i]? = some d ∧ TdAt H q d ∧ TdG parts keys hands d
  | _, _, i, _, .nil, h => by simp at h
  | _, _, 0, _, .cons a g _, h => by cases Option.some.inj h; exact ⟨_, rfl, a, g⟩
  | _, _, i + 1, _, .cons _ _ r, h => let ⟨d, a, b⟩ := r.at_ (i := i) (by simpa using h); ⟨d, by simpa using a, b⟩
theorem TdsAt.len {parts keys hands : List Str} {H : Hp} : ∀ {qs : List Addr} {ds : List Td}, TdsAt parts keys hands H qs ds → qs.length = ds.length
  | _, _, .nil => rfl
  | _, _, .cons _ _ r => by rw [List.length_cons, List.length_cons, r.len]
structure Gn (p l1 l2 l3 : Addr) (parts keys hands : List Str) (H : Hp) : Prop where
  st : StA H p
  e1 : H l1 = some (.lst (parts.map V.str))
  e2 : H l2 = some (.lst (keys.map V.str))
  e3 : H l3 = some (.lst (hands.map V.str))
structure Wn (parts keys hands : List Str) : Prop where
  p0 : 0 < parts.length
  p3 : parts.length ≤ 3
  k0 : 0 < keys.length
  k5 : keys.length ≤ 50
  kn : keys.Nodup
  h0 : 0 < hands.length
  h5 : hands.length ≤ 50
  hn : hands.Nodup
theorem Gn.keep {p l1 l2 l3 : Addr} {parts keys hands : List Str} {H H' : Hp} (g : Gn p l1 l2 l3 parts keys hands H) (s : SameB p H H') (st : StA H' p) : Gn p l1 l2 l3 parts keys hands H' :=
  ⟨st, s _ _ g.e1 (g.st.neS g.e1), s _ _ g.e2 (g.st.neS g.e2), s _ _ g.e3 (g.st.neS g.e3)⟩
section
variable {P : Program} {w : World} {K : PySem.W.Frag} {mg : Str → Option Value} {base : Heap}
abbrev s_law_tolds : Stmt := top 81
end
end K26C
namespace K26C
open PySem PySem.Spec PyProof.Rows L2 Jg
theorem CTx.ty {K : PySem.W.Frag} {mg : Str → Option Value} {C : Addr} (J : CTx K mg C) {H : Hp} {x dx : Addr} {fs : List (Str × V)} (h : H x = some (.ins C dx fs)) : TyX K H (.ref x) (.ref C) := .base (.ins h J.cl J.cls_ J.cgt J.ctk J.mro)
def sgT (d : Td) : List Str := d.sg.getD d.vo
structure WdL (ks : List Str) (m : Nat) : Prop where
  nd : ks.Nodup
  le : ks.length ≤ m
  wd : ∀ k ∈ ks, Wd k
structure TdR (d : Td) : Prop where
  n1 : 1 ≤ d.rows.length
  n3 : d.rows.length ≤ 3
  nd : (d.rows.map (·.z)).Nodup
  rw_ : ∀ r ∈ d.rows, Wd r.z ∧ Wd r.u ∧ WdL r.ks 8
  vo : WdL d.vo 4
  le : 0 ≤ d.le ∧ d.le ≤ 4
  sg : ∀ ks, d.sg = some ks → WdL ks 4
/-- a list or a tuple of these words -/
def seqO (b : Bool) (ks : List Str) : HO := if b then .lst (ks.map V.str) else .tup (ks.map V.str)
/-- a role's use as it is copied -/
structure CpAt (H : Hp) (D p : Addr) (b : Bool) (r : Row) : Prop where
  pr : H p = some (.tup [.str r.z, .ref r.t])
  tp : H r.t = some (.tup [.ref r.a, .str r.u])
  sq : H r.a = some (seqO b r.ks)
  b_ : r.b = b
  np : p ≠ D
  nt : r.t ≠ D
  na : r.a ≠ D
theorem CpAt.keep {H H' : Hp} {D p : Addr} {b : Bool} {r : Row} (h : CpAt H D p b r) (s : Same H H') : CpAt H' D p b r :=
  ⟨s _ _ h.pr, s _ _ h.tp, s _ _ h.sq, h.b_, h.np, h.nt, h.na⟩
/-- the words of a whole run -/
structure Ww (parts keys hands : List Str) : Prop where
  n : Wn parts keys hands
  pn : parts.Nodup
  k8 : keys.length ≤ 8
  h4 : hands.length ≤ 4
  pw : ∀ z ∈ parts, Wd z
  kw : ∀ z ∈ keys, Wd z
  hw : ∀ z ∈ hands, Wd z
theorem Sb.wdl {hs ks : List Str} {m : Nat} (h : Sb hs ks) (w : ∀ z ∈ hs, Wd z) (le : hs.length ≤ m) : WdL ks m := ⟨h.nd, Nat.le_trans h.len le, fun k hk => w k (h.sub k hk)⟩
theorem TdG.r {parts keys hands : List Str} {d : Td} (g : TdG parts keys hands d) (w : Ww parts keys hands) : TdR d := by
  have len : d.rows.length = parts.length := by rw [← g.zs, List.length_map]
  refine ⟨by rw [len]; exact w.n.p0, by rw [len]; exact w.n.p3, by rw [g.zs]; exact w.pn, fun r hr => ⟨w.pw _ (by rw [← g.zs]; exact List.mem_map_of_mem hr), w.kw _ (g.rows r hr).1, (g.rows r hr).2.wdl w.kw w.k8⟩, g.vo.wdl w.hw w.h4, g.le, fun ks e => (g.sg ks e).wdl w.hw w.h4⟩
section
variable {P : Program} {w : World} {K : PySem.W.Frag} {mg : Str → Option Value} {base : Heap} {C CI : Addr}
abbrev s_law_contents : Stmt := top 83
end
end K26C
namespace K26C
open PySem PySem.Spec PyProof.Rows L2 Jg
section
variable {P : Program} {w : World} {K : PySem.W.Frag} {mg : Str → Option Value} {base : Heap}
abbrev s_law_vouched : Stmt := top 87
end
end K26C
namespace Jg
open PySem PySem.Spec PyProof.Rows L2
end Jg
namespace Jg
open PySem PySem.Spec PyProof.Rows L2 PySem.W
end Jg
namespace Jg
open PySem PySem.Spec PyProof.Rows L2
end Jg
namespace K26F
open PySem PySem.Spec PyProof.Rows L2 Jg
def top (i : Nat) : Stmt := PySem.Challenge.pw_gaplesskeys_k26_runs_that_jump.main.body.getD i (.Pass ⟨0, 0, 0, 0⟩)
def L : Int := 10 ^ 30
theorem L_eq : L = 1000000000000000000000000000000 := by decide +kernel
structure Kd where
  g : Int
  a : Option Int
  s : Option Str
def oV : Option Int → V
  | none => .non
  | some i => .int i
def sV : Option Str → V
  | none => .non
  | some z => .str z
def kf (u v s : V) : List (Str × V) := [("_gap", u), ("_age", v), ("_source", s)]
def kflds (r : Kd) : List (Str × V) := kf (.int r.g) (oV r.a) (sV r.s)
/-- a kind stands at p -/
def KAt (C : Addr) (H : Hp) (p : Addr) (r : Kd) : Prop := ∃ dx, H p = some (.ins C dx (kflds r))
/-- what the walk asks of the text -/
structure Txt (K : PySem.W.Frag) (mg : Str → Option Value) (C : Addr) : Prop where
  cl : Cls K C
  ng : NoAttr K C "_gap"
  na : NoAttr K C "_age"
  ns : NoAttr K C "_source"
  cKind : mg "Kind" = some (.ref C)
  gLONGEST : ∃ u, mg "LONGEST" = some u ∧ L2.RelV (.int L) u
  b_isinstance : mg "isinstance" = none
  b_int : mg "int" = none
  b_bool : mg "bool" = none
  b_str : mg "str" = none
  b_tuple : mg "tuple" = none
  b_len : mg "len" = none
  b_max : mg "max" = none
  b_min : mg "min" = none
  b_range : mg "range" = none
  b_repr : mg "repr" = none
  gMOST_KINDS : ∃ u, mg "MOST_KINDS" = some u ∧ L2.RelV (.int 5) u
  g_LONGEST_CHAIN : ∃ u, mg "_LONGEST_CHAIN" = some u ∧ L2.RelV (.int 4) u
  b_any : mg "any" = none
  b_set : mg "set" = none
  b_dict : mg "dict" = none
  b_list : mg "list" = none
  b_sorted : mg "sorted" = none
  cls_ : PySem.W.findIn K (.ref C) "__class__" = some (some (.builtin "object.__class__"))
  cgt : PySem.W.specialIn K (.builtin "object.__class__") "__get__" = some (some (.builtin "getset_descriptor.__get__"))
  ctk : PySem.W.takesIn K (.builtin "object.__class__") = some true
  mro : PySem.W.mroIn K C (.type "object") = some true
  ne : PySem.W.findIn K (.ref C) "__ne__" = some (some (.builtin "object.__ne__"))
  kCC : PySem.W.kitOne K (.ref C) (.ref C) = some true
  kN : PySem.W.kitOne K (.type "NoneType") (.ref C) = some false
  kI : PySem.W.kitOne K (.type "int") (.ref C) = some false
  kS : PySem.W.kitOne K (.type "str") (.ref C) = some false
  kL : PySem.W.kitOne K (.type "list") (.ref C) = some false
  kT : PySem.W.kitOne K (.type "tuple") (.ref C) = some false
  kD : PySem.W.kitOne K (.type "dict") (.ref C) = some false
  oCC : PySem.W.notFirst K C (.ref C) = true
  oN : PySem.W.notFirst K C (.type "NoneType") = true
  oI : PySem.W.notFirst K C (.type "int") = true
  oS : PySem.W.notFirst K C (.type "str") = true
  oL : PySem.W.notFirst K C (.type "list") = true
  oT : PySem.W.notFirst K C (.type "tuple") = true
  oD : PySem.W.notFirst K C (.type "dict") = true
/-- what the walk asks of the class Fleet, of the small numbers and of the built-in names -/
structure FTx (K : PySem.W.Frag) (mg : Str → Option Value) (F : Addr) : Prop where
  cl : Cls K F
  nk : NoAttr K F "_kinds"
  nc : NoAttr K F "_calls"
  cFleet : mg "Fleet" = some (.ref F)
  ns : PySem.W.noSeq K F = true
  fn : ∀ f, PySem.W.findIn K (.ref F) "__getitem__" = some (some (.ref f)) → PySem.W.fnIn K f = true
section
variable {K : PySem.W.Frag} {mg : Str → Option Value} {C : Addr}
theorem Txt.ty (T : Txt K mg C) {H : Hp} {p : Addr} {r : Kd} (h : KAt C H p r) : TyX K H (.ref p) (.ref C) :=
  let ⟨_, e⟩ := h
  .base (.ins e T.cl T.cls_ T.cgt T.ctk T.mro)
end
abbrev kit (K : PySem.W.Frag) (t : Value) (n : String) (b : Bool) : Prop := PySem.W.kitOne K t (.type n) = some b
/-- no integer, whatever comes -/
def NoInt (K : PySem.W.Frag) (H : Hp) (y : V) : Prop := ∃ t b1 b2, (∀ H', Same H H' → TyX K H' y t) ∧ kit K t "int" b1 ∧ (b1 = true → kit K t "bool" b2) ∧ (b1 && !b2) = false
def BadR (K : PySem.W.Frag) (H : Hp) (lo hi : Int) (y : V) : Prop := (∃ i, y = .int i ∧ (decide (lo ≤ i) && decide (i ≤ hi)) = false) ∨ NoInt K H y
def wordB (z : Str) : Bool := decide (z.length ≤ 8) && (PySem.Txt.isascii z && (PySem.Txt.isalpha z && PySem.Txt.islower z))
def BadW (K : PySem.W.Frag) (H : Hp) (y : V) : Prop := (∃ z, y = .str z ∧ z.length ≤ sizeLine ∧ wordB z = false) ∨ ∃ t, (∀ H', Same H H' → TyX K H' y t) ∧ kit K t "str" false
theorem NoInt.keep {K : PySem.W.Frag} {H H' : Hp} {y : V} (h : NoInt K H y) (s : Same H H') : NoInt K H' y :=
  let ⟨t, b1, b2, ty, r⟩ := h
  ⟨t, b1, b2, fun H2 s2 => ty H2 (s.trans s2), r⟩
theorem BadR.keep {K : PySem.W.Frag} {H H' : Hp} {lo hi : Int} {y : V} (h : BadR K H lo hi y) (s : Same H H') : BadR K H' lo hi y := h.elim .inl fun z => .inr (z.keep s)
theorem BadW.keep {K : PySem.W.Frag} {H H' : Hp} {y : V} (h : BadW K H y) (s : Same H H') : BadW K H' y := h.elim .inl fun ⟨t, ty, r⟩ => .inr ⟨t, fun H2 s2 => ty H2 (s.trans s2), r⟩
def aOk (a : Option Int) : Prop := ∀ i, a = some i → 0 ≤ i ∧ i ≤ L
def sOk (s : Option Str) : Prop := ∀ z, s = some z → z.length ≤ sizeLine ∧ wordB z = true
structure KOk (r : Kd) : Prop where
  g : 1 ≤ r.g ∧ r.g ≤ L
  a : aOk r.a
  s : sOk r.s
section
variable {P : Program} {w : World} {K : PySem.W.Frag} {mg : Str → Option Value} {base : Heap} {C : Addr}
abbrev s_is_integer : Stmt := top 15
abbrev s_is_between : Stmt := top 17
abbrev s_is_word : Stmt := top 21
end
end K26F
namespace K26F
open PySem PySem.Spec PyProof.Rows L2 Jg
structure ExnQ (K : PySem.W.Frag) (mg : Str → Option Value) (x : Str) (CI : Addr) (qual : Str) (st : Stmt) (f : Str) : Prop where
  mg_ : mg x = some (.ref CI)
  ovr : Ovr K CI
  xk : ExcK K CI
  no : PySem.W.findIn K (.ref CI) f = some none
  ini : ∃ fI fd, Fun K "__init__" qual st fI fd ∧ PySem.W.findIn K (.ref CI) "__init__" = some (some (.ref fI)) ∧ PySem.W.typeIn K (.ref fI) = some (.type "function")
  te : PySem.W.exmOne K (.ref CI) (.ref CI) = some true
section
variable {P : Program} {w : World} {K : PySem.W.Frag} {mg : Str → Option Value} {base : Heap} {C CI CU : Addr}
abbrev s_InvalidKind_init : Stmt := inClass (top 7) 0
abbrev s_UnknownName_init : Stmt := inClass (top 9) 0
abbrev s_checked_gap : Stmt := top 63
abbrev s_checked_age : Stmt := top 64
abbrev s_checked_source : Stmt := top 65
abbrev s_Kind_init : Stmt := inClass (top 68) 0
end
end K26F
namespace K26F
open PySem PySem.Spec PyProof.Rows L2 Jg
/-- all stays, but what stands at p -/
def SameB (p : Addr) (H H' : Hp) : Prop := ∀ q o, H q = some o → q ≠ p → H' q = some o
theorem SameB.trans {p : Addr} {H H1 H2 : Hp} (a : SameB p H H1) (b : SameB p H1 H2) : SameB p H H2 := fun q o e n => b q o (a q o e n) n
theorem SameB.of {p : Addr} {H H1 : Hp} (a : Same H H1) : SameB p H H1 := fun q o e _ => a q o e
theorem SameB.out {p : Addr} {H H1 H2 : Hp} (a : Same H H1) (b : SameB p H1 H2) (n : H p = none) : Same H H2 := fun q o e => b q o (a q o e) (ne_of_none e n)
def StA (H : Hp) (p : Addr) : Prop := ∃ a b, H p = some (.lst [.int a, .int b]) ∧ 0 ≤ a
theorem StA.ne {H : Hp} {p l : Addr} (h : StA H p) (n : H l = none) : l ≠ p := fun z => by
  obtain ⟨a, b, e, _⟩ := h
  rw [z, e] at n
  cases n
def AZ (z : Str) : Prop := ∀ c ∈ z.cps.toList, 97 ≤ c ∧ c ≤ 122
theorem az_sign : ∀ c : Nat, 97 ≤ c → c ≤ 122 → (Unicode.isAlpha c && (Unicode.isLower c && (!Unicode.isUpper c && !Unicode.isTitle c))) = true := by
  intro c h1 h2
  have h : ∀ d ∈ (List.range 26).map (97 + ·), (Unicode.isAlpha d && (Unicode.isLower d && (!Unicode.isUpper d && !Unicode.isTitle d))) = true := by decide +kernel
  exact h c (List.mem_map.mpr ⟨c - 97, List.mem_range.mpr (by omega), by show 97 + (c - 97) = c; omega⟩)
theorem az_all {z : Str} {p : Nat → Bool} (h : AZ z) (hp : ∀ c, 97 ≤ c → c ≤ 122 → p c = true) : z.cps.all p = true := by
  rw [← Array.all_toList]
  exact List.all_eq_true.mpr fun c hc => hp c (h c hc).1 (h c hc).2
theorem az_word {z : Str} (h : AZ z) (h1 : 1 ≤ z.length) (h8 : z.length ≤ 8) : wordB z = true := by
  have pos : 0 < z.cps.toList.length := by
    have e : z.length = z.cps.size := rfl
    rw [Array.length_toList]; omega
  have ha : PySem.Txt.isascii z = true := az_all h fun c _ _ => decide_eq_true (by omega)
  have hb : PySem.Txt.isalpha z = true := by
    unfold PySem.Txt.isalpha
    rw [az_all h fun c h1 h2 => (Bool.and_eq_true_iff.mp (az_sign c h1 h2)).1, Bool.and_true]
    exact decide_eq_true (by omega)
  have hc : PySem.Txt.islower z = true := by
    unfold PySem.Txt.islower
    have k1 : z.cps.any Unicode.isLower = true := by
      rw [← Array.any_toList]
      have m : z.cps.toList[0] ∈ z.cps.toList := List.getElem_mem pos
      exact List.any_eq_true.mpr ⟨_, m, (Bool.and_eq_true_iff.mp (Bool.and_eq_true_iff.mp (az_sign _ (h _ m).1 (h _ m).2)).2).1⟩
    have k2 : (z.cps.any fun c => Unicode.isUpper c || Unicode.isTitle c) = false := by
      rw [← Array.any_toList, List.any_eq_false]
      intro c hc
      have z4 := (Bool.and_eq_true_iff.mp (Bool.and_eq_true_iff.mp (az_sign _ (h _ hc).1 (h _ hc).2)).2).2
      obtain ⟨u1, u2⟩ := Bool.and_eq_true_iff.mp z4
      rw [Bool.not_eq_true'] at u1 u2
      rw [u1, u2]; simp
    rw [k1, k2]; rfl
  unfold wordB
  rw [decide_eq_true h8, ha, hb, hc]; rfl
/-- a word -/
def Wd (z : Str) : Prop := AZ z ∧ 1 ≤ z.length ∧ z.length ≤ 7
theorem Wd.ok {z : Str} (h : Wd z) : z.length ≤ sizeLine ∧ wordB z = true := ⟨by rw [sizeLine_eq]; have := h.2.2; omega, az_word h.1 h.2.1 (Nat.le_succ_of_le h.2.2)⟩
end K26F
namespace K26F
open PySem PySem.Spec PyProof.Rows L2 Jg
theorem same_kat {C : Addr} {H H' : Hp} {p : Addr} {r : Kd} (e : Same H H') (h : KAt C H p r) : KAt C H' p r :=
  let ⟨dx, h⟩ := h
  ⟨dx, e _ _ h⟩
/-- the kinds under their names: name, what it tells, where it stands -/
abbrev Ks := List (Str × Kd × Addr)
def kvs (ks : Ks) : List (Key × V) := ks.map fun e => (Sum.inr e.1, V.ref e.2.2)
def Kds (C : Addr) (H : Hp) (d : Addr) (ks : Ks) : Prop := Rd H d (.dK (kvs ks)) ∧ ∀ e ∈ ks, KAt C H e.2.2 e.2.1 ∧ KOk e.2.1
def kdOf (ks : Ks) (z : Str) : Option (Str × Kd × Addr) := ks.find? fun e => e.1 = z
def srcOf (ks : Ks) (z : Str) : Option Str := (kdOf ks z).bind fun e => e.2.1.s
/-- every source is there -/
def Fed (ks : Ks) : Prop := ∀ e ∈ ks, ∀ z, e.2.1.s = some z → z ∈ ks.map (·.1)
def chainB (ks : Ks) : Nat → List Str → Option Str → List Str
  | 0, acc, _ => acc
  | _ + 1, acc, none => acc
  | n + 1, acc, some z => chainB ks n (z :: acc) (srcOf ks z)
def chainF (ks : Ks) (z : Str) : List Str := chainB ks 4 [z] (srcOf ks z)
theorem Kds.keep {C : Addr} {H H' : Hp} {d : Addr} {ks : Ks} (h : Kds C H d ks) (s : Same H H') : Kds C H' d ks := ⟨h.1.elim (fun e => .inl (s _ _ e)) (fun ⟨o, e⟩ => .inr ⟨o, s _ _ e⟩), fun e he => ⟨same_kat s (h.2 e he).1, (h.2 e he).2⟩⟩
theorem kd_mem {ks : Ks} {z : Str} (h : z ∈ ks.map (·.1)) : ∃ e, kdOf ks z = some e ∧ e ∈ ks ∧ e.1 = z := by
  obtain ⟨e, he, ez⟩ := List.mem_map.mp h
  cases c : kdOf ks z with
  | none => exact absurd (decide_eq_true ez) (by have := List.find?_eq_none.mp c e he; simpa using this)
  | some o => exact ⟨o, rfl, List.mem_of_find?_eq_some c, by simpa using List.find?_some c⟩
section
variable {P : Program} {w : World} {K : PySem.W.Frag} {mg : Str → Option Value} {base : Heap} {C CI CU F : Addr}
abbrev s_Kind_gap : Stmt := inClass (top 68) 1
abbrev s_Kind_age : Stmt := inClass (top 68) 3
abbrev s_Kind_source : Stmt := inClass (top 68) 5
abbrev s_copied : Stmt := top 66
abbrev s_chain_to : Stmt := top 67
end
end K26F
namespace K26F
open PySem PySem.Spec PyProof.Rows L2 Jg
def ff (d c : Addr) : List (Str × V) := [("_kinds", .ref d), ("_calls", .ref c)]
/-- a fleet stands at f: its kinds ks in the dict at d, its calls in the list at c -/
structure FltAt (F C : Addr) (H : Hp) (f d c : Addr) (ks : Ks) (cs : List V) : Prop where
  at_ : ∃ dx, H f = some (.ins F dx (ff d c))
  ed : H d = some (.dK (kvs ks))
  kds : Kds C H d ks
  cal : H c = some (.lst cs)
section
variable {P : Program} {w : World} {K : PySem.W.Frag} {mg : Str → Option Value} {base : Heap} {C CI CU CO F : Addr}
abbrev s_Fleet_init : Stmt := inClass (top 69) 0
abbrev s_LimitExceeded_init : Stmt := inClass (top 11) 0
abbrev s_Fleet_setitem : Stmt := inClass (top 69) 1
end
end K26F
namespace K26F
open PySem PySem.Spec PyProof.Rows L2 Jg
/-- what is no kind of the fleet -/
def NoKind (K : PySem.W.Frag) (H : Hp) (ks : Ks) (y : V) : Prop := (∃ z, y = .str z ∧ z.length ≤ sizeLine ∧ (wordB z = true → z ∉ ks.map (·.1))) ∨ ∃ t, (∀ H', Same H H' → TyX K H' y t) ∧ kit K t "str" false
def WdKs (ks : Ks) : Prop := ∀ e ∈ ks, e.1.length ≤ sizeLine ∧ wordB e.1 = true
theorem NoKind.keep {K : PySem.W.Frag} {H H' : Hp} {ks : Ks} {y : V} (h : NoKind K H ks y) (s : Same H H') : NoKind K H' ks y := h.elim .inl fun ⟨t, ty, k⟩ => .inr ⟨t, fun H2 s2 => ty H2 (s.trans s2), k⟩
theorem FltAt.keep {F C : Addr} {H H' : Hp} {f d c : Addr} {ks : Ks} {cs : List V} (h : FltAt F C H f d c ks cs) (s : Same H H') : FltAt F C H' f d c ks cs :=
  let ⟨⟨dx, e⟩, ed, k, cl⟩ := h
  ⟨⟨dx, s _ _ e⟩, s _ _ ed, k.keep s, s _ _ cl⟩
section
variable {P : Program} {w : World} {K : PySem.W.Frag} {mg : Str → Option Value} {base : Heap} {C CI CU F : Addr}
abbrev s_Fleet_check : Stmt := inClass (top 69) 7
abbrev s_Fleet_chain : Stmt := inClass (top 69) 9
/-- what a kind adds to the lateness -/
def addK (r : Kd) : Int := match r.a with
  | none => r.g - 1
  | some a => 2 * r.g + a - 2
def addZ (ks : Ks) (z : Str) : Int := match kdOf ks z with
  | none => 0
  | some e => addK e.2.1
def lateF (ks : Ks) (zs : List Str) : Int := zs.foldl (fun t z => t + addZ ks z) 1
abbrev s_Fleet_lateness : Stmt := inClass (top 69) 10
end
end K26F
namespace K26F
open PySem PySem.Spec PyProof.Rows L2 Jg
structure TxM (K : PySem.W.Frag) (mg : Str → Option Value) : Prop where
  gMOST_CALLS : ∃ u, mg "MOST_CALLS" = some u ∧ L2.RelV (.int 6) u
  b_zip : mg "zip" = none
def callT (z0 z1 z2 : Str) (i : Int) : List V := [.str z0, .str z1, .str z2, .int i]
section
variable {P : Program} {w : World} {K : PySem.W.Frag} {mg : Str → Option Value} {base : Heap} {C CA CU CM CO FC : Addr}
abbrev s_InvalidCall_init : Stmt := inClass (top 8) 0
abbrev s_InvalidMoment_init : Stmt := inClass (top 4) 0
abbrev s_Fleet_calls : Stmt := inClass (top 69) 12
abbrev s_Fleet_add_call : Stmt := inClass (top 69) 11
end
end K26F
namespace K26F
open PySem PySem.Spec PyProof.Rows L2 Jg
section
variable {P : Program} {w : World} {K : PySem.W.Frag} {mg : Str → Option Value} {base : Heap} {C CI CU F : Addr}
abbrev s_Fleet_getitem : Stmt := inClass (top 69) 2
end
end K26F
namespace K26R
open PySem PySem.Spec PyProof.Rows L2 Jg
def top (i : Nat) : Stmt := PySem.Challenge.pw_gaplesskeys_k26_runs_that_jump.main.body.getD i (.Pass ⟨0, 0, 0, 0⟩)
def B : Int := 10 ^ 60
theorem B_eq : B = 1000000000000000000000000000000000000000000000000000000000000 := by decide +kernel
def flds (r : Int × Int) : List (Str × V) := [("_low", .int r.1), ("_high", .int r.2)]
/-- a range stands at p -/
def RAt (C : Addr) (H : Hp) (p : Addr) (r : Int × Int) : Prop := ∃ dx, H p = some (.ins C dx (flds r))
def Bnd (i : Int) : Prop := -B < i ∧ i < B
/-- what the walk asks of the text -/
structure Txt (K : PySem.W.Frag) (mg : Str → Option Value) (C : Addr) : Prop where
  cl : Cls K C
  nl : NoAttr K C "_low"
  nh : NoAttr K C "_high"
  sf : PySem.W.selfFirst K C = true
  cRange : mg "Range" = some (.ref C)
  gBOUND : ∃ u, mg "BOUND" = some u ∧ L2.RelV (.int B) u
  b_isinstance : mg "isinstance" = none
  b_int : mg "int" = none
  b_bool : mg "bool" = none
  b_str : mg "str" = none
  b_len : mg "len" = none
  b_max : mg "max" = none
  b_min : mg "min" = none
  b_range : mg "range" = none
  b_repr : mg "repr" = none
  b_sorted : mg "sorted" = none
  b_set : mg "set" = none
  cls_ : PySem.W.findIn K (.ref C) "__class__" = some (some (.builtin "object.__class__"))
  cgt : PySem.W.specialIn K (.builtin "object.__class__") "__get__" = some (some (.builtin "getset_descriptor.__get__"))
  ctk : PySem.W.takesIn K (.builtin "object.__class__") = some true
  mro : PySem.W.mroIn K C (.type "object") = some true
  kCC : PySem.W.kitOne K (.ref C) (.ref C) = some true
  kN : PySem.W.kitOne K (.type "NoneType") (.ref C) = some false
  kB : PySem.W.kitOne K (.type "bool") (.ref C) = some false
  kI : PySem.W.kitOne K (.type "int") (.ref C) = some false
  kS : PySem.W.kitOne K (.type "str") (.ref C) = some false
  kL : PySem.W.kitOne K (.type "list") (.ref C) = some false
  kT : PySem.W.kitOne K (.type "tuple") (.ref C) = some false
  kD : PySem.W.kitOne K (.type "dict") (.ref C) = some false
  kCi : PySem.W.kitOne K (.ref C) (.type "int") = some false
  oCC : PySem.W.notFirst K C (.ref C) = true
section
variable {K : PySem.W.Frag} {mg : Str → Option Value} {C : Addr}
theorem Txt.ty (T : Txt K mg C) {H : Hp} {p : Addr} {r : Int × Int} (h : RAt C H p r) : TyX K H (.ref p) (.ref C) :=
  let ⟨_, e⟩ := h
  .base (.ins e T.cl T.cls_ T.cgt T.ctk T.mro)
end
section
variable {P : Program} {w : World} {K : PySem.W.Frag} {mg : Str → Option Value} {base : Heap} {C : Addr}
abbrev s_is_integer : Stmt := top 15
abbrev s_is_bounded : Stmt := top 16
abbrev s_Range_init : Stmt := inClass (top 44) 0
end
end K26R
namespace K26R
open PySem PySem.Spec PyProof.Rows L2 Jg
section
variable {P : Program} {w : World} {K : PySem.W.Frag} {mg : Str → Option Value} {base : Heap} {C : Addr}
abbrev s_Range_last : Stmt := inClass (top 44) 4
end
end K26R
namespace Jg
open PySem PySem.Spec PyProof.Rows L2
/-- a def of the module whose code object stands at c -/
structure DefC (K : PySem.W.Frag) (mg : Str → Option Value) (x : Str) (st : Stmt) (c : Addr) : Prop where
  ex : ∃ (f : Addr) (oc : Value) (od : Option Addr) (kV doc pm : Value) (an : Option Addr) (ct : Value) (osl : Array (Option Value)), K.lookup f = some ⟨oc, od, .func (PySem.W.fnOf x x (defArgs st) (defBody st) (defScope st) .none kV doc pm an (.ref c) ct), osl⟩ ∧ PySem.W.codeIn K (.ref c) x = true ∧ PySem.W.keepIn K (.ref f) = true ∧ mg x = some (.ref f)
theorem DefC.of {K : PySem.W.Frag} {h : Heap} {mg : Str → Option Value} {x : Str} {st : Stmt} {c f : Addr} {oc : Value} {od an : Option Addr} {osl : Array (Option Value)} {kV doc pm ct : Value} (X : K.In h) (G : h.Ns mainGlobals mg)
    (a : PySem.W.nsIn K mainGlobals x = some (some (.ref f))) (l : K.lookup f = some ⟨oc, od, .func (PySem.W.fnOf x x (defArgs st) (defBody st) (defScope st) .none kV doc pm an (.ref c) ct), osl⟩)
    (e : PySem.W.codeIn K (.ref c) x = true) (k : PySem.W.keepIn K (.ref f) = true) : DefC K mg x st c := ⟨f, oc, od, kV, doc, pm, an, ct, osl, l, e, k, PySem.W.mg_of X G a⟩
end Jg
namespace K26
open PySem PySem.Spec PyProof.Rows L2 Jg
def top (i : Nat) : Stmt := PySem.Challenge.pw_gaplesskeys_k26_runs_that_jump.main.body.getD i (.Pass ⟨0, 0, 0, 0⟩)
def LM : Int := 10 ^ 40
/-- the names that plans ask for -/
structure TxP (K : PySem.W.Frag) (mg : Str → Option Value) : Prop where
  g_LAST_MOMENT : ∃ u, mg "_LAST_MOMENT" = some u ∧ L2.RelV (.int LM) u
  gMOST_EDITIONS : ∃ u, mg "MOST_EDITIONS" = some u ∧ L2.RelV (.int 7) u
  b_isinstance : mg "isinstance" = none
  b_tuple : mg "tuple" = none
  b_list : mg "list" = none
  b_len : mg "len" = none
  b_enumerate : mg "enumerate" = none
  b_range : mg "range" = none
  b_zip : mg "zip" = none
  b_max : mg "max" = none
  b_min : mg "min" = none
  b_repr : mg "repr" = none
/-- the class of plans -/
structure PTx (K : PySem.W.Frag) (mg : Str → Option Value) (PC : Addr) : Prop where
  cl : Cls K PC
  cPlan : mg "Plan" = some (.ref PC)
  ne : NoAttr K PC "_editions"
/-- an edition: its moment, the tuple, the contents -/
structure Ed where
  m : Int
  t : Addr
  x : Addr
  c : K26C.Ct
def Ed.v (e : Ed) : V := .ref e.t
structure EdAt (C : Addr) (H : Hp) (e : Ed) : Prop where
  tp : H e.t = some (.tup [.int e.m, .ref e.x])
  ct : K26C.CAt (fun _ => True) C H e.x e.c
  ok : K26C.CtOk e.c
theorem EdAt.same {C : Addr} {H H' : Hp} {e : Ed} (h : EdAt C H e) (s : Same H H') : EdAt C H' e := ⟨s _ _ h.tp, h.ct.same s, h.ok⟩
/-- editions that make a plan -/
structure EdsOk (es : List Ed) : Prop where
  n1 : 1 ≤ es.length
  n7 : es.length ≤ 7
  mo : ∀ e ∈ es, 0 ≤ e.m ∧ e.m ≤ LM
  inc : ∀ (i : Nat) (a b : Ed), es[i]? = some a → es[i + 1]? = some b → a.m < b.m
  rl : ∀ a ∈ es, ∀ b ∈ es, a.c.us.map (·.z) = b.c.us.map (·.z)
section
variable {P : Program} {w : World} {K : PySem.W.Frag} {mg : Str → Option Value} {base : Heap} {C : Addr}
abbrev s_is_moment : Stmt := top 18
abbrev s_is_index : Stmt := top 19
abbrev s_is_tuple_of : Stmt := top 20
abbrev s_is_edition : Stmt := top 36
end
end K26
namespace K26
open PySem PySem.Spec PyProof.Rows L2 Jg
/-- a plan stands at p -/
structure PlAt (PC C : Addr) (H : Hp) (p : Addr) (es : List Ed) : Prop where
  ex : ∃ dx l, H p = some (.ins PC dx [(("_editions" : Str), .ref l)]) ∧ H l = some (.lst (es.map Ed.v))
  eds : ∀ e ∈ es, EdAt C H e
  ok : EdsOk es
theorem PlAt.same {PC C : Addr} {H H' : Hp} {p : Addr} {es : List Ed} (h : PlAt PC C H p es) (s : Same H H') : PlAt PC C H' p es :=
  let ⟨dx, l, e1, e2⟩ := h.ex
  ⟨⟨dx, l, s _ _ e1, s _ _ e2⟩, fun e he => (h.eds e he).same s, h.ok⟩
def Ed.k (e : Ed) : Int × Addr × K26C.Ct := (e.m, e.x, e.c)
section
variable {P : Program} {w : World} {K : PySem.W.Frag} {mg : Str → Option Value} {base : Heap} {C PC CU : Addr}
abbrev s_first_wrong : Stmt := top 37
end
end K26
namespace K26
open PySem PySem.Spec PyProof.Rows L2 Jg
theorem EdsOk.of {es es' : List Ed} (h : es'.map Ed.k = es.map Ed.k) (ok : EdsOk es) : EdsOk es' := by
  have l := congrArg List.length h
  rw [List.length_map, List.length_map] at l
  have mem : ∀ e ∈ es', ∃ q ∈ es, Ed.k q = Ed.k e := fun e he => by
    have m : Ed.k e ∈ es.map Ed.k := h ▸ List.mem_map_of_mem he
    obtain ⟨q, hq, eq⟩ := List.mem_map.mp m
    exact ⟨q, hq, eq⟩
  have at_ : ∀ {i : Nat} {e : Ed}, es'[i]? = some e → ∃ q, es[i]? = some q ∧ Ed.k q = Ed.k e := fun {i e} he => by
    have z : (es'.map Ed.k)[i]? = some (Ed.k e) := by rw [List.getElem?_map, he]; rfl
    rw [h, List.getElem?_map] at z
    cases c : es[i]? with
    | none => rw [c] at z; cases z
    | some q => rw [c] at z; exact ⟨q, rfl, Option.some.inj z⟩
  refine ⟨by rw [l]; exact ok.n1, by rw [l]; exact ok.n7, fun e he => ?_, fun i a b ha hb => ?_, fun a ha b hb => ?_⟩
  · obtain ⟨q, hq, e1⟩ := mem e he
    have z := ok.mo q hq
    rw [show q.m = e.m from congrArg (·.1) e1] at z
    exact z
  · obtain ⟨a', ha', e1⟩ := at_ ha
    obtain ⟨b', hb', e2⟩ := at_ hb
    have z := ok.inc i a' b' ha' hb'
    rw [show a'.m = a.m from congrArg (·.1) e1, show b'.m = b.m from congrArg (·.1) e2] at z
    exact z
  · obtain ⟨a', ha', e1⟩ := mem a ha
    obtain ⟨b', hb', e2⟩ := mem b hb
    have z := ok.rl a' ha' b' hb'
    rw [show a'.c = a.c from congrArg (·.2.2) e1, show b'.c = b.c from congrArg (·.2.2) e2] at z
    exact z
theorem EdAt.of {C : Addr} {H H' : Hp} {e q : Ed} (h : EdAt C H q) (k : Ed.k q = Ed.k e) (s : Same H H') (t : H' e.t = some (.tup [.int e.m, .ref e.x])) : EdAt C H' e := by
  have k2 : q.x = e.x := congrArg (·.2.1) k
  have k3 : q.c = e.c := congrArg (·.2.2) k
  exact ⟨t, by rw [← k2, ← k3]; exact h.ct.same s, by rw [← k3]; exact h.ok⟩
section
variable {P : Program} {w : World} {K : PySem.W.Frag} {mg : Str → Option Value} {base : Heap} {C PC CU CE : Addr}
abbrev s_UnknownEdition_init : Stmt := inClass (top 10) 0
abbrev s_Plan_init : Stmt := inClass (top 38) 0
abbrev s_Plan_len : Stmt := inClass (top 38) 1
abbrev s_Plan_check : Stmt := inClass (top 38) 6
abbrev s_Plan_moment_of : Stmt := inClass (top 38) 7
abbrev s_Plan_contents_of : Stmt := inClass (top 38) 8
abbrev s_Plan_moments : Stmt := inClass (top 38) 9
end
end K26
namespace K26
open PySem PySem.Spec PyProof.Rows L2 Jg
section
variable {P : Program} {w : World} {K : PySem.W.Frag} {mg : Str → Option Value} {base : Heap} {C PC CU CE RC FC KC : Addr}
abbrev s_span : Stmt := top 46
abbrev s_held_span : Stmt := top 47
end
structure Cl where
  t : Addr
  z : Str
  a : Str
  b : Str
  i : Int
def Cl.v (c : Cl) : List V := K26F.callT c.z c.a c.b c.i
structure FlAt (FC KC : Addr) (H : Hp) (f : Addr) (ks : K26F.Ks) (cl : List Cl) : Prop where
  ex : ∃ d c, K26F.FltAt FC KC H f d c ks (cl.map fun q => V.ref q.t)
  tp : ∀ q ∈ cl, H q.t = some (.tup (Cl.v q))
  wd : K26F.WdKs ks
  fed : K26F.Fed ks
theorem FlAt.same {FC KC : Addr} {H H' : Hp} {f : Addr} {ks : K26F.Ks} {cl : List Cl} (h : FlAt FC KC H f ks cl) (s : Same H H') : FlAt FC KC H' f ks cl :=
  let ⟨d, c, a⟩ := h.ex
  ⟨⟨d, c, a.keep s⟩, fun q hq => s _ _ (h.tp q hq), h.wd, h.fed⟩
/-- the first role of a call that is not in the list -/
def missR (cl : List Cl) (zs : List Str) : Option Str := (cl.find? fun q => !decide (q.z ∈ zs)).map (·.z)
section
variable {P : Program} {w : World} {K : PySem.W.Frag} {mg : Str → Option Value} {base : Heap} {C PC CU CE RC FC KC : Addr}
abbrev s_check_roles : Stmt := top 23
end
end K26
namespace K26
open PySem PySem.Spec PyProof.Rows L2 Jg
def lateK (ks : K26F.Ks) (z : Str) : Int := K26F.lateF ks (K26F.chainF ks z)
def mos (es : List Ed) : List Int := es.map (·.m)
def SpOk (es : List Ed) (la : Int) : Prop := ∀ m ∈ mos es, K26R.Bnd m ∧ K26R.Bnd (m + (la - 2))
end K26
namespace K26
open PySem PySem.Spec PyProof.Rows L2 Jg
open K26C (StA SameB Wd)
def S0 : Int := 4 * 10 ^ 30
structure KRow where
  t : Addr
  z : Str
  r : K26F.Kd
def KrAt (H : Hp) (k : KRow) : Prop := H k.t = some (.tup [.str k.z, .int k.r.g, K26F.oV k.r.a, K26F.sV k.r.s])
/-- rows that a fleet takes -/
structure KrOk (kr : List KRow) : Prop where
  nd : (kr.map (·.z)).Nodup
  wd : ∀ k ∈ kr, Wd k.z
  g : ∀ k ∈ kr, 1 ≤ k.r.g ∧ k.r.g ≤ 10 ^ 30
  a : ∀ k ∈ kr, ∀ a, k.r.a = some a → 0 ≤ a ∧ a ≤ 10 ^ 30
  s : ∀ i k z, kr[i]? = some k → k.r.s = some z → z ∈ (kr.take i).map (·.z)
structure MsOk (ms : List Int) : Prop where
  lo : ∀ m ∈ ms, 0 ≤ m ∧ m ≤ 10 ^ 32
  inc : ∀ (i : Nat) (a b : Int), ms[i]? = some a → ms[i + 1]? = some b → a < b
structure MsI (ms : List Int) : Prop where
  lo : ∀ (j : Nat) (m : Int), ms[j]? = some m → 0 ≤ m ∧ m ≤ 5 + j * S0
  inc : ∀ (i : Nat) (a b : Int), ms[i]? = some a → ms[i + 1]? = some b → a < b
theorem MsI.ok {ms : List Int} (h : MsI ms) (l : ms.length ≤ 7) : MsOk ms := ⟨fun m hm => by
  obtain ⟨j, lt, e⟩ := List.getElem_of_mem hm
  have z := h.lo j m (by rw [List.getElem?_eq_getElem lt, e])
  have a : (j : Int) * S0 ≤ 7 * S0 := Int.mul_le_mul_of_nonneg_right (by omega) (by decide +kernel)
  have b : 5 + 7 * S0 ≤ 10 ^ 32 := by decide +kernel
  exact ⟨z.1, by omega⟩, h.inc⟩
theorem KrOk.nil : KrOk [] := ⟨List.nodup_nil, (fun _ h => nomatch h), (fun _ h => nomatch h), (fun _ h => nomatch h), fun _ _ _ h => by simp at h⟩
theorem frefs_no {α : Type} {g : α → Addr} {ws : List α} (a b : Int) : HO.lst (ws.map fun k => V.ref (g k)) ≠ .lst [.int a, .int b] := fun z => by
  injection z with z
  cases ws with
  | nil => cases z
  | cons x r => injection z with z1 z2; cases z1
theorem KrAt.keep {H H' : Hp} {p : Addr} {k : KRow} (h : KrAt H k) (st : StA H p) (s : SameB p H H') : KrAt H' k := s _ _ h (st.no h fun _ _ z => nomatch z)
def ClAt (H : Hp) (q : Cl) : Prop := H q.t = some (.tup q.v)
theorem ClAt.keep {H H' : Hp} {p : Addr} {k : Cl} (h : ClAt H k) (st : StA H p) (s : SameB p H H') : ClAt H' k := s _ _ h (st.no h fun _ _ z => nomatch z)
section
variable {P : Program} {w : World} {K : PySem.W.Frag} {mg : Str → Option Value} {base : Heap}
abbrev s_law_moments : Stmt := top 82
abbrev s_law_kinds : Stmt := top 76
abbrev s_law_calls : Stmt := top 77
end
end K26
namespace K26
open PySem PySem.Spec PyProof.Rows L2 Jg
open K26C (Td TdAt TdsAt TdR Ww CAt CtOk Ct UAt hid hid_in hid_get)
section
variable {P : Program} {w : World} {K : PySem.W.Frag} {mg : Str → Option Value} {base : Heap} {C PC : Addr}
abbrev s_law_plan : Stmt := top 84
end
end K26
namespace K26
open PySem PySem.Spec PyProof.Rows L2 Jg
def KOrd (ks : K26F.Ks) : Prop := ∀ (i : Nat) (e : Str × K26F.Kd × Addr) (z : Str), ks[i]? = some e → e.2.1.s = some z → z ∈ (ks.take i).map (·.1)
theorem kd_at {ks : K26F.Ks} {i : Nat} {e : Str × K26F.Kd × Addr} (nd : (ks.map (·.1)).Nodup) (h : ks[i]? = some e) : K26F.kdOf ks e.1 = some e := by
  obtain ⟨e', ke, me, ez⟩ := K26F.kd_mem (List.mem_map_of_mem (List.mem_of_getElem? h))
  rw [ke]
  obtain ⟨j, hj⟩ := List.getElem?_of_mem me
  obtain ⟨l1, q1⟩ := List.getElem?_eq_some_iff.mp h
  obtain ⟨l2, q2⟩ := List.getElem?_eq_some_iff.mp hj
  have k1 : (ks.map (·.1))[i]'(by rw [List.length_map]; exact l1) = e.1 := by rw [List.getElem_map, q1]
  have k2 : (ks.map (·.1))[j]'(by rw [List.length_map]; exact l2) = e.1 := by rw [List.getElem_map, q2]; exact ez
  have ij := (List.getElem_inj nd (h₀ := by rw [List.length_map]; exact l1) (h₁ := by rw [List.length_map]; exact l2)).mp (k1.trans k2.symm)
  subst ij
  rw [h] at hj
  exact hj.symm
theorem take_at {α : Type} {ks : List α} {i : Nat} {g : α → Str} {y : Str} (h : y ∈ (ks.take i).map g) : ∃ j e, j < i ∧ ks[j]? = some e ∧ g e = y := by
  obtain ⟨e, he, q⟩ := List.mem_map.mp h
  obtain ⟨j, hj⟩ := List.getElem?_of_mem he
  rw [List.getElem?_take] at hj
  split at hj
  · exact ⟨j, e, by assumption, hj, q⟩
  · cases hj
def Cl.w (q : Cl) : Str × Str × Str × Int := (q.z, q.a, q.b, q.i)
theorem kr_ord {kr : List KRow} {ks : K26F.Ks} {i : Nat} (ko : KrOk kr) (e : ks.map (fun e => (e.1, e.2.1)) = (kr.take i).map (fun k => (k.z, k.r))) : (ks.map (·.1)).Nodup ∧ KOrd ks ∧ ks.map (·.1) = (kr.take i).map (·.z) := by
  have nm : ks.map (·.1) = (kr.take i).map (·.z) := by
    have z := congrArg (List.map (·.1)) e
    rw [List.map_map, List.map_map] at z; exact z
  refine ⟨?_, fun j e0 z hj hs => ?_, nm⟩
  · rw [nm]; exact ko.nd.sublist ((List.take_sublist i kr).map _)
  · have z1 : (ks.map (fun e => (e.1, e.2.1)))[j]? = some (e0.1, e0.2.1) := by rw [List.getElem?_map, hj]; rfl
    rw [e, List.getElem?_map] at z1
    cases c : (kr.take i)[j]? with
    | none => rw [c] at z1; cases z1
    | some k =>
      rw [c] at z1
      have e2 : k.r = e0.2.1 := congrArg (·.2) (Option.some.inj z1)
      rw [List.getElem?_take] at c
      split at c
      · rename_i lt
        have m := ko.s j k z c (by rw [e2]; exact hs)
        have tt : (ks.take j).map (·.1) = (kr.take j).map (·.z) := by
          rw [List.map_take, nm, ← List.map_take, List.take_take, Nat.min_eq_left (by omega)]
        rw [tt]; exact m
      · cases c
section
variable {P : Program} {w : World} {K : PySem.W.Frag} {mg : Str → Option Value} {base : Heap} {FC KC CI CU CA CM CO : Addr}
abbrev s_law_fleet : Stmt := top 85
end
end K26
namespace K26
open PySem PySem.Spec PyProof.Rows L2 Jg
def lateZ (kr : List KRow) : Nat → Option Str → Int
  | 0, _ => 1
  | _ + 1, none => 1
  | n + 1, some z => match kr.find? (fun k => decide (k.z = z)) with
    | none => 1
    | some k => lateZ kr n k.r.s + K26F.addK k.r
theorem lateZ_none (kr : List KRow) (n : Nat) : lateZ kr n none = 1 := by cases n <;> rfl
theorem kr_find {kr : List KRow} {i : Nat} {k : KRow} (nd : (kr.map (·.z)).Nodup) (h : kr[i]? = some k) : kr.find? (fun q : KRow => decide (q.z = k.z)) = some k := by
  cases c : kr.find? (fun q : KRow => decide (q.z = k.z)) with
  | none => exact absurd (decide_eq_true rfl) (by have := List.find?_eq_none.mp c k (List.mem_of_getElem? h); exact this)
  | some q =>
    have ez : q.z = k.z := of_decide_eq_true (List.find?_some (p := fun q : KRow => decide (q.z = k.z)) c)
    obtain ⟨j, hj⟩ := List.getElem?_of_mem (List.mem_of_find?_eq_some c)
    obtain ⟨l1, q1⟩ := List.getElem?_eq_some_iff.mp h
    obtain ⟨l2, q2⟩ := List.getElem?_eq_some_iff.mp hj
    have k1 : (kr.map (·.z))[i]'(by rw [List.length_map]; exact l1) = k.z := by rw [List.getElem_map, q1]
    have k2 : (kr.map (·.z))[j]'(by rw [List.length_map]; exact l2) = k.z := by rw [List.getElem_map, q2]; exact ez
    have ij := (List.getElem_inj nd (h₀ := by rw [List.length_map]; exact l1) (h₁ := by rw [List.length_map]; exact l2)).mp (k1.trans k2.symm)
    subst ij
    rw [h] at hj
    exact hj.symm
section
variable {P : Program} {w : World} {K : PySem.W.Frag} {mg : Str → Option Value} {base : Heap} {RC : Addr}
abbrev s_law_late : Stmt := top 86
end
end K26
namespace K26
open PySem PySem.Spec PyProof.Rows L2 Jg
open K26C (StA SameB Wd)
theorem lateF_from (ks : K26F.Ks) : ∀ (zs : List Str) (t : Int), zs.foldl (fun t z => t + K26F.addZ ks z) t = t - 1 + K26F.lateF ks zs
  | [], t => by show t = t - 1 + 1; omega
  | z :: zs, t => by
    have a := lateF_from ks zs (t + K26F.addZ ks z)
    have b := lateF_from ks zs (1 + K26F.addZ ks z)
    show zs.foldl _ (t + K26F.addZ ks z) = t - 1 + zs.foldl _ (1 + K26F.addZ ks z)
    rw [a, b]; omega
theorem lateF_cons (ks : K26F.Ks) (z : Str) (zs : List Str) : K26F.lateF ks (z :: zs) = K26F.lateF ks zs + K26F.addZ ks z := by
  have b := lateF_from ks zs (1 + K26F.addZ ks z)
  show zs.foldl _ (1 + K26F.addZ ks z) = _
  rw [b]; omega
/-- the same kinds stand in the fleet and in the rows -/
structure Alk (ks : K26F.Ks) (kr : List KRow) : Prop where
  e : ks.map (fun (e : Str × K26F.Kd × Addr) => (e.1, e.2.1)) = kr.map (fun k => (k.z, k.r))
  ok : KrOk kr
theorem Alk.at_ {ks : K26F.Ks} {kr : List KRow} (h : Alk ks kr) {i : Nat} {k : KRow} (hk : kr[i]? = some k) : ∃ x, K26F.kdOf ks k.z = some (k.z, k.r, x) := by
  have z : (ks.map (fun (e : Str × K26F.Kd × Addr) => (e.1, e.2.1)))[i]? = some (k.z, k.r) := by rw [h.e, List.getElem?_map, hk]; rfl
  rw [List.getElem?_map] at z
  cases c : ks[i]? with
  | none => rw [c] at z; cases z
  | some e =>
    rw [c] at z
    obtain ⟨e1, e2, x⟩ := e
    have q := Option.some.inj z
    have q1 : e1 = k.z := congrArg (·.1) q
    have q2 : e2 = k.r := congrArg (·.2) q
    subst q1 q2
    have nd := (kr_ord (i := kr.length) h.ok (by rw [List.take_length]; exact h.e)).1
    exact ⟨x, kd_at nd c⟩
theorem late_chain {ks : K26F.Ks} {kr : List KRow} (h : Alk ks kr) : ∀ (m : Nat) (acc : List Str) (o : Option Str), (∀ z, o = some z → ∃ (i : Nat) (k : KRow), kr[i]? = some k ∧ k.z = z) → K26F.lateF ks (K26F.chainB ks m acc o) = lateZ kr m o + K26F.lateF ks acc - 1
  | 0, acc, o, _ => by show K26F.lateF ks acc = 1 + _ - 1; omega
  | m + 1, acc, none, _ => by show K26F.lateF ks acc = 1 + _ - 1; omega
  | m + 1, acc, some z, hz => by
    obtain ⟨i, k, hk, rfl⟩ := hz z rfl
    obtain ⟨x, kx⟩ := h.at_ hk
    have es : K26F.srcOf ks k.z = k.r.s := by unfold K26F.srcOf; rw [kx]; rfl
    have ea : K26F.addZ ks k.z = K26F.addK k.r := by unfold K26F.addZ; rw [kx]
    show K26F.lateF ks (K26F.chainB ks m (k.z :: acc) (K26F.srcOf ks k.z)) = _
    rw [es, late_chain h m (k.z :: acc) k.r.s fun y e => ?_, lateF_cons, ea]
    · show _ = (match kr.find? (fun q => decide (q.z = k.z)) with | none => 1 | some q => lateZ kr m q.r.s + K26F.addK q.r) + _ - 1
      rw [kr_find h.ok.nd hk]
      show _ = lateZ kr m k.r.s + K26F.addK k.r + _ - 1
      omega
    · obtain ⟨j, k', _, h', q⟩ := take_at (g := KRow.z) (h.ok.s i k y hk e)
      exact ⟨j, k', h', q⟩
theorem late_eq {ks : K26F.Ks} {kr : List KRow} (h : Alk ks kr) {i : Nat} {k : KRow} (hk : kr[i]? = some k) : lateK ks k.z = lateZ kr 5 (some k.z) := by
  obtain ⟨x, kx⟩ := h.at_ hk
  have es : K26F.srcOf ks k.z = k.r.s := by unfold K26F.srcOf; rw [kx]; rfl
  have ea : K26F.addZ ks k.z = K26F.addK k.r := by unfold K26F.addZ; rw [kx]
  unfold lateK K26F.chainF
  rw [es, late_chain h 4 [k.z] k.r.s fun y e => by
    obtain ⟨j, k', _, h', q⟩ := take_at (g := KRow.z) (h.ok.s i k y hk e)
    exact ⟨j, k', h', q⟩, lateF_cons, ea]
  show _ = (match kr.find? (fun q => decide (q.z = k.z)) with | none => 1 | some q => lateZ kr 4 q.r.s + K26F.addK q.r)
  rw [kr_find h.ok.nd hk]
  show lateZ kr 4 k.r.s + (1 + K26F.addK k.r) - 1 = lateZ kr 4 k.r.s + K26F.addK k.r
  omega
end K26
namespace K26
open PySem PySem.Spec PyProof.Rows L2 Jg
open K26C (StA SameB Wd)
open K26C (Td TdAt TdsAt Ww Wn Gn)
section
variable {P : Program} {w : World} {K : PySem.W.Frag} {mg : Str → Option Value} {base : Heap}
abbrev s_law_large : Stmt := top 96
end
end K26
namespace Jg
open PySem PySem.Spec PyProof.Rows L2
theorem law_callTL {P : Program} {w : World} {K : PySem.W.Frag} {mg mb : Str → Option Value} {CX : CXT} {k : Nat} {fa a : Addr} {Ts : List (Addr × Addr)} {fd : FuncData} {x : Str} {sp : Sp} {s₁ : Shared} {vs : List Value} {ns : List Int}
    (KX : K.In s₁.heap) (hns : s₁.heap.Ns mainGlobals mg) (hb : s₁.heap.Ns builtinsNs mb) (hbb : ∀ x : Str, x ≠ "__name__" → mb x = bootBuiltins x) (hlim : s₁.heap.NoLimit) (hg : s₁.gens = #[])
    (hT : ∀ q ∈ Ts, s₁.heap.get? q.2 = some { cls := .none, data := .fields #[] }) (nT : ∀ q ∈ Ts, K.lookup q.2 = none) (C : ∀ q ∈ Ts, PySem.W.CodeHd s₁.heap q.1 q.2)
    (hbm : ∃ (bm : Addr) (ob : Obj), mg "__builtins__" = some (.ref bm) ∧ bm ≠ builtinsNs ∧ s₁.heap.get? bm = some ob ∧ ob.cls = .type "module" ∧ ob.dict = some builtinsNs ∧ ob.data = .plain)
    (ha : s₁.heap.get? a = some { cls := .type "list", data := .seq vs.toArray }) (hi : IntsAre vs ns) (hl : ns.length ≤ sizeLine) (hr : Room k callerA)
    (F : ∀ base : Heap, K.In base → base.Ns mainGlobals mg → (∀ q ∈ Ts, LamX.TabB base mg q.1 q.2) → FnG P w K mg base CX k fa fd [x] sp) (hbind : ∀ (s : Shared) (u : Value), BindsTo s fd ⟨[u], []⟩ [(x, u)])
    (hsp : ∀ H : Hp, (∀ q ∈ Ts, H q.2 = some (.tbl #[])) → SqL K H a (ns.map V.int) → sp [.ref a] H (fun v _ => v = .bl true) fun _ _ _ => False)
    (hCX : ∀ H e s', CX [] H s₁ (fun _ _ _ => False) e s' → False) :
    codeAny (model P w) callerA (.call (.ref fa) ⟨[.ref a], []⟩) (fun r s' => r = .ok (.ret (.bool true)) ∧ OldK s₁.heap s'.heap ∧ s'.os = s₁.os ∧ AllBare s'.gens) s₁ := by
  have lenV := hi.length
  let scriptO : Obj := { cls := .type "list", data := .seq vs.toArray }
  have isT : ∀ {b : Addr}, b ∈ Ts.map (·.2) → s₁.heap.get? b = some { cls := .none, data := .fields #[] } ∧ K.lookup b = none := fun {b} h => by
    obtain ⟨q, hq, rfl⟩ := List.mem_map.mp h
    exact ⟨hT q hq, nT q hq⟩
  have aT : a ∉ Ts.map (·.2) := fun e => by
    rw [(isT e).1] at ha
    exact nomatch (show Data.fields #[] = Data.seq vs.toArray _ from congrArg Obj.data (Option.some.inj ha))
  -- what is tracked: the table, and the script unless it is one of the module's own objects
  let H : Hp := fun b => if b ∈ Ts.map (·.2) then some (.tbl #[]) else if b = a ∧ K.lookup a = none then some (.frz scriptO (.lst (ns.map V.int))) else none
  have HT : ∀ {b : Addr}, b ∈ Ts.map (·.2) → H b = some (.tbl #[]) := fun h => if_pos h
  have H1 : ∀ b u, H b = some u → (b ∈ Ts.map (·.2) ∧ u = .tbl #[]) ∨ (b = a ∧ K.lookup a = none ∧ u = .frz scriptO (.lst (ns.map V.int))) := fun b u e => by
    by_cases c0 : b ∈ Ts.map (·.2)
    · have e' : some (HO.tbl #[]) = some u := (if_pos c0).symm.trans e
      exact .inl ⟨c0, (Option.some.inj e').symm⟩
    have e := (show (if b = a ∧ K.lookup a = none then some (HO.frz scriptO (.lst (ns.map V.int))) else none) = some u from (if_neg c0).symm.trans e)
    by_cases c : b = a ∧ K.lookup a = none
    · rw [if_pos c] at e
      exact .inr ⟨c.1, c.2, (Option.some.inj e).symm⟩
    · rw [if_neg c] at e
      cases e
  have seq : SqL K H a (ns.map V.int) := by
    cases hk : K.lookup a with
    | none =>
      have z : H a = some (.frz scriptO (.lst (ns.map V.int))) := (if_neg aT).trans (if_pos ⟨rfl, hk⟩)
      exact .inl (.inr ⟨scriptO, z⟩)
    | some o =>
      have e := KX a o hk
      rw [ha] at e
      cases e
      exact .inr ⟨_, vs.toArray, _, hk, rfl, rfl, rfl, by rw [List.size_toArray, lenV]; exact hl, by simpa using vals_ints hi⟩
  have ok : HOk P w H s₁.heap := fun b u e => by
    rcases H1 b u e with ⟨hb, rfl⟩ | ⟨rfl, _, rfl⟩
    · exact (isT hb).1
    · exact ⟨ha, by rw [List.length_map]; exact hl, vs, _, vals_ints hi, ha⟩
  have other : ∀ {b : Addr} {o : Obj}, s₁.heap.get? b = some o → o.data ≠ .fields #[] → (∀ vs n, o.data ≠ .seq vs n) → H b = none := fun {b o} e n1 n2 => by
    cases q : H b with
    | none => rfl
    | some u =>
      rcases H1 b u q with ⟨hb, _⟩ | ⟨rfl, _, _⟩
      · rw [(isT hb).1] at e
        cases e
        exact absurd rfl n1
      · rw [ha] at e
        cases e
        exact absurd rfl (n2 _ _)
  have ns0 : ∀ {b : Addr} {m : Str → Option Value}, s₁.heap.Ns b m → (hidT s₁.heap H).Ns b m := fun {b m} ⟨o, es, ep, e, d, r⟩ => ⟨o, es, ep, hidT_get e (other e (by rw [d]; exact fun z => nomatch z) fun _ _ => by rw [d]; exact fun z => nomatch z), d, r⟩
  have kin0 : K.In (hidT s₁.heap H) := fun b o e => hidT_get (KX b o e) (by
    cases q : H b with
    | none => rfl
    | some u =>
      rcases H1 b u q with ⟨hb, _⟩ | ⟨rfl, hk, _⟩
      · rw [(isT hb).2] at e; cases e
      · rw [hk] at e; cases e)
  have md : Mod K mg (hidT s₁.heap H) := ⟨kin0, ns0 hns, ⟨mb, ns0 hb, hbb⟩, let ⟨mc, c1, c2⟩ := hlim; ⟨mc, ns0 c1, c2⟩⟩
  have tb : ∀ q ∈ Ts, LamX.TabB (hidT s₁.heap H) mg q.1 q.2 := fun q9 hq9 => by
    have hT9 := hT q9 hq9
    obtain ⟨o, us, file, tf, flags, tg, inF, text, tt, e1, r1, r2, r3, r⟩ := C q9 hq9
    obtain ⟨bm, ob, b1, b2, b3, b4, b5, b6⟩ := hbm
    refine ⟨⟨o, us, file, tf, flags, tg, inF, text, tt, hidT_get e1 (other e1 (fun z => ?_) fun _ _ z => ?_), r1, r2, r3, r⟩, ⟨bm, ob, b1, b2, fun q => ?_, fun q => ?_, hidT_get b3 (other b3 (by rw [b6]; exact fun z => nomatch z) fun _ _ => by rw [b6]; exact fun z => nomatch z), b4, b5, b6⟩, fun z => ?_⟩
    · rw [r2] at z
      cases z
      simp at r3
    · rw [r2] at z; cases z
    · obtain ⟨o2, es, ep, e, hd, _⟩ := hns
      rw [q, e] at b3
      cases b3
      rw [hd] at b6; cases b6
    · rw [q, hT9] at b3
      cases b3
      cases b6
    · obtain ⟨o2, es, ep, e, hd, _⟩ := hns
      rw [z, hT9] at e
      cases e
      cases hd
  have e0 : Env0 P w K mg (hidT s₁.heap H) callerA [] s₁ H := ⟨rfl, md, fun b o e => of_hidT e, Nat.le_of_eq (hidT_size _ _), trivial, fun b hb => absurd (show b ∈ ([] : List Addr) from hb) (by simp), ok, .of_eq hg⟩
  have go := (F _ kin0 (ns0 hns) tb).run callerA rfl [] s₁ H ⟨[.ref a], []⟩ [.ref a] [.ref a] _ _ hr e0 (hbind s₁ (.ref a)) (.cons rfl .nil) (hsp H (fun q hq => HT (List.mem_map_of_mem hq)) seq)
  refine codeAny_mono go fun r s' h => ?_
  match r, h with
  | .error e, h => exact (hCX H e s' h).elim
  | .ok (.ret u), ⟨v, H', os, bare, un, hok', r', q⟩ =>
    have q' : v = .bl true := q
    subst q'
    cases (show u = Value.bool true from r')
    have key : ∀ b o, b ∉ Ts.map (·.2) → s₁.heap.get? b = some o → s'.heap.get? b = some o := fun b o n e => by
      cases q : H b with
      | none => exact un.keep b o e q (fun z => absurd (show b ∈ ([] : List Addr) from z) (by simp)) (by simp)
      | some u =>
        rcases H1 b u q with ⟨z, _⟩ | ⟨rfl, _, rfl⟩
        · exact absurd z n
        · have w2 := (hok' _ _ (un.frzs _ _ _ q)).1
          rw [ha] at e
          cases e
          exact w2
    have grown : ∀ {b : Addr}, b ∈ Ts.map (·.2) → ∃ more : Array Value, s'.heap.get? b = some { cls := .none, data := .fields (#[] ++ more) } := fun {b} hb => by
      obtain ⟨more, em⟩ := un.tbls b #[] (HT hb)
      exact ⟨more, hok' b _ em⟩
    refine ⟨rfl, ⟨fun b o e => ?_, fun b o e => ?_⟩, os, bare⟩
    · by_cases c0 : b ∈ Ts.map (·.2)
      · obtain ⟨more, gr⟩ := grown c0
        obtain ⟨q9, hq9, eb⟩ := List.mem_map.mp c0
        have hT9 := hT q9 hq9
        have C9 := C q9 hq9
        rw [eb] at hT9 C9
        rw [hT9] at e
        cases e
        exact .inr (.inl ⟨(C9.tab hT9).isCodeTable, rfl, #[], more, rfl, gr⟩)
      · exact .inl (key b o c0 e)
    · by_cases c0 : b ∈ Ts.map (·.2)
      · obtain ⟨more, gr⟩ := grown c0
        exact ⟨_, gr⟩
      · exact ⟨o, key b o c0 e⟩
/-- defs that make lambdas: their code objects and tables, of those that the head keeps -/
theorem walk_ofTL {l : PySem.W.OpenLaw} {n k : Nat} {q : Program} {loose : List Str} {XP : (Str → Option Value) → Heap → Prop} {YP : World → Heap → Prop} {d : DefRec} {K : Params → PySem.W.Frag} {CX : World → CXT} {x : Str} {ts : List Addr}
    (hn : l.most = some n) (hn2 : n ≤ sizeLine) (hdf : d.params.defaults = []) (hr : Room k callerA)
    (hY : ∀ (w : World) (h : Heap), YP w h → (K w.params).In h) (hTs : ∀ (w : World) (h : Heap), YP w h → ∀ T ∈ ts, h.get? T = some (PySem.W.tabObj #[]))
    (F : ∀ (w : World) (mg : Str → Option Value) (fa : Addr) (h : Heap), (K w.params).In h → h.Ns mainGlobals mg → mg d.name = some (.ref fa) → XP mg h →
      ∃ (Ts : List (Addr × Addr)) (fd : FuncData) (sp : Sp), (∀ q ∈ Ts, q.2 ∈ ts ∧ PySem.W.codeHdIn (K w.params) q.1 q.2 = true ∧ (K w.params).lookup q.2 = none) ∧ (∀ (s : Shared) (u : Value), BindsTo s fd ⟨[u], []⟩ [(x, u)]) ∧
        (∀ (H : Hp) (a : Addr) (ns : List Int), ns.length ≤ n → (∀ q ∈ Ts, H q.2 = some (.tbl #[])) → SqL (K w.params) H a (ns.map V.int) → sp [.ref a] H (fun v _ => v = .bl true) fun _ _ _ => False) ∧
        ∀ base : Heap, (K w.params).In base → base.Ns mainGlobals mg → (∀ q ∈ Ts, LamX.TabB base mg q.1 q.2) → FnG l.prog w (K w.params) mg base (CX w) k fa fd [x] sp)
    (hCX : ∀ (w : World) (H : Hp) (s : Shared) (e : Value) (s' : Shared), CX w [] H s (fun _ _ _ => False) e s' → False) :
    PySem.W.WalkO q loose XP YP l.row.toRowW d [] (fun f vs => PySem.call f vs) :=
  Att.attach_call hn hdf fun w _ s₁ mg mb fa _ _ _ _ a vs ns G Y _ _ _ hmg hobj hints hlen hg =>
    let ⟨_, _, _, ht, hb, hsp, hF⟩ := F w mg fa _ (hY w _ Y) G.T.g hmg G.X
    law_callTL (hY w _ Y) G.T.g G.T.b G.T.builtins G.T.nolimit hg (fun q hq => hTs w _ Y _ (ht q hq).1) (fun q hq => (ht q hq).2.2) (fun q hq => PySem.W.codeHd_of_K (hY w _ Y) (ht q hq).2.1) G.T.bmain hobj hints (Nat.le_trans hlen hn2) hr hF hb (fun H h1 hS => hsp H a ns hlen h1 hS) fun H e s' => hCX w H s₁ e s'
end Jg
namespace Jg
open PySem PySem.Spec PyProof.Rows L2
end Jg
namespace Jg
open PySem PySem.Spec PyProof.Rows L2
/-- what two values are said to be: the same or not -/
abbrev Dqv := V → V → Hp → Bool → Prop
def EqB (X : Cx) (n : Nat) (D : Dqv) : Prop := ∀ (A : Around) (pins : List (Addr × Obj)) (s : Shared) (σ : L2.St) (H : Hp) (x y : V) (u v : Value) (b : Bool), Sub X n A → Inv X pins σ H s → RelV x u → RelV y v → D x y H b →
  wpAny (model X.prog X.w) A (eqBool u v) (fun r s' => r = b ∧ ∃ H', Inv X pins σ H' s' ∧ Ext H H') X.xe s
def RcB (X : Cx) (n : Nat) (D : Dqv) : Prop := ∀ (A : Around) (pins : List (Addr × Obj)) (s : Shared) (σ : L2.St) (H : Hp) (x y : V) (u v : Value) (b : Bool), Sub X n A → Inv X pins σ H s → RelV x u → RelV y v → D x y H b →
  wpAny (model X.prog X.w) A (richCompare .Eq u v) (fun r s' => r = .bool b ∧ ∃ H', Inv X pins σ H' s' ∧ Ext H H') X.xe s
section
variable {X : Cx} {n m : Nat} {D D' : Dqv}
theorem EqB.mono (h : EqB X n D) (le : n ≤ m) : EqB X m D := fun A pins s σ H x y u v b sb => h A pins s σ H x y u v b (sb.mono le)
end
end Jg
namespace Jg
open PySem PySem.Spec PyProof.Rows L2
section
variable {X : Cx} {n k j : Nat} {D : Dqv} {C : Addr} {R : Addr → Addr → Hp → Bool → Prop} {sp : Sp}
theorem RcB.imp (h : RcB X n D) {D' : Dqv} (i : ∀ x y H b, D' x y H b → D x y H b) : RcB X n D' := fun A pins s σ H x y u v b sb I rx ry d => h A pins s σ H x y u v b sb I rx ry (i x y H b d)
end
end Jg
namespace Jg
open PySem PySem.W
def live (o : Obj) : Option Obj := match o with
  | ⟨_, _, .freed, _⟩ => none
  | o => some o
def at_ (objs : Array Obj) (a : Addr) : Option Obj := match objs[a]? with
  | some ⟨_, _, .freed, _⟩ => none
  | o => o
theorem at_live {objs : Array Obj} {a : Addr} {o : Obj} (h : objs[a]? = some o) : at_ objs a = live o := by
  unfold at_ live
  rw [h]
  obtain ⟨c, d, x, t⟩ := o
  cases x <;> rfl
def pick : List Obj → Nat → List Addr → List (Option Obj)
  | [], _, as => as.map fun _ => none
  | _ :: _, _, [] => []
  | o :: r, i, a :: as => match Nat.beq a i with
    | true => live o :: pick r (i + 1) as
    | false => pick r (i + 1) (a :: as)
theorem pick_ok {objs : Array Obj} : ∀ (l : List Obj) (i : Nat) (as : List Addr) (vs : List Obj), (∀ j, l[j]? = objs[i + j]?) → pick l i as = vs.map some → as.map (at_ objs) = vs.map some
  | [], i, as, vs, h, e => by
    have e : as.map (fun _ => (none : Option Obj)) = vs.map some := by cases as <;> exact e
    cases as with
    | nil => exact e
    | cons a as =>
      cases vs with
      | nil => cases e
      | cons v vs => simp at e
  | o :: r, i, [], vs, h, e => e
  | o :: r, i, a :: as, vs, h, e => by
    have h' : ∀ j, r[j]? = objs[i + 1 + j]? := fun j => by
      have z := h (j + 1)
      rw [List.getElem?_cons_succ] at z
      rw [z, show i + (j + 1) = i + 1 + j by omega]
    have e : (match Nat.beq a i with | true => live o :: pick r (i + 1) as | false => pick r (i + 1) (a :: as)) = vs.map some := e
    cases c : Nat.beq a i with
    | true =>
      rw [c] at e
      have ai : a = i := Nat.eq_of_beq_eq_true c
      subst ai
      cases vs with
      | nil => cases e
      | cons v vs =>
        rw [List.map_cons] at e
        injection e with e1 e2
        have z := h 0
        rw [List.getElem?_cons_zero, Nat.add_zero] at z
        rw [List.map_cons, List.map_cons, pick_ok r (a + 1) as vs h' e2, at_live z.symm, e1]
    | false =>
      rw [c] at e
      exact pick_ok r (i + 1) (a :: as) vs h' e
theorem pick_in {K : Params → Frag} {as : List Addr} (e : ∀ P, as = (K P).map (·.1)) (w : World) (s : Shared) (x : pick s.heap.objs.toList 0 as = (K w.params).map fun p => some p.2) : InK K w s.heap :=
  InK.of e w s (by
    have z := pick_ok (objs := s.heap.objs) s.heap.objs.toList 0 as ((K w.params).map (·.2)) (fun j => by rw [Nat.zero_add, Array.getElem?_toList]) (by rw [x, List.map_map]; rfl)
    rw [List.map_map] at z
    exact z)
def pHook (K : Params → Frag) (as : List Addr) (e : ∀ P, as = (K P).map (·.1)) (_ : Unit) (_ : Unit) : Hook :=
  ⟨List (Option Obj), fun s => pick s.heap.objs.toList 0 as, fun w => (K w.params).map fun p => some p.2, InK K, pick_in e, InK.keeps⟩
def pmHook (K : Params → Frag) (as : List Addr) (e : ∀ P, as = (K P).map (·.1)) (ts : List Addr) (_ : Unit) : Hook where
  α := List (Option Obj) × List (Option Obj)
  obs := fun s => (pick s.heap.objs.toList 0 as, ts.map s.heap.get?)
  val := fun w => ((K w.params).map fun p => some p.2, ts.map fun _ => some (tabObj #[]))
  says := fun w h => InK K w h ∧ ∀ P ∈ ts, h.get? P = some (tabObj #[])
  of := fun w s x => ⟨pick_in e w s (Prod.mk.inj x).1, List.map_inj_left.mp (Prod.mk.inj x).2⟩
  keeps := fun w h h' x k => ⟨InK.keeps w h h' x.1 k, fun P hP => k _ _ (x.2 P hP)⟩
theorem pm_in_of {K : Params → Frag} {as : List Addr} {e : ∀ P, as = (K P).map (·.1)} {ts : List Addr} {w : World} {h : Heap} (Y : (pmHook K as e ts ()).says w h) : (K w.params).In h := Y.1
theorem pm_tabs_of {K : Params → Frag} {as : List Addr} {e : ∀ P, as = (K P).map (·.1)} {ts : List Addr} {w : World} {h : Heap} (Y : (pmHook K as e ts ()).says w h) : ∀ P ∈ ts, h.get? P = some (tabObj #[]) := Y.2
end Jg
namespace Jg
open PySem PySem.Spec PyProof.Rows L2
/-- tuples of two ints -/
inductive TsAt (H : Hp) : List Addr → List (Int × Int) → Prop
  | nil : TsAt H [] []
  | cons {t : Addr} {a b : Int} {ts : List Addr} {ps : List (Int × Int)} : H t = some (.tup [.int a, .int b]) → TsAt H ts ps → TsAt H (t :: ts) ((a, b) :: ps)
theorem TsAt.mono {H H' : Hp} (s : ∀ q o, H q = some o → H' q = some o ∨ ∀ a b : Int, o ≠ .tup [.int a, .int b]) : ∀ {ts : List Addr} {ps : List (Int × Int)}, TsAt H ts ps → TsAt H' ts ps
  | _, _, .nil => .nil
  | _, _, .cons e r => .cons (by rcases s _ _ e with z | z; exact z; exact absurd rfl (z _ _)) (r.mono s)
theorem TsAt.same {H H' : Hp} {ts : List Addr} {ps : List (Int × Int)} (h : TsAt H ts ps) (s : ∀ q o, H q = some o → H' q = some o) : TsAt H' ts ps := h.mono fun q o e => .inl (s q o e)
theorem TsAt.len {H : Hp} : ∀ {ts : List Addr} {ps : List (Int × Int)}, TsAt H ts ps → ts.length = ps.length
  | _, _, .nil => rfl
  | _, _, .cons e r => congrArg (· + 1) r.len
theorem TsAt.at_ {H : Hp} : ∀ {ts : List Addr} {ps : List (Int × Int)} {i : Nat} {t : Addr}, TsAt H ts ps → ts[i]? = some t → ∃ q, ps[i]? = some q ∧ H t = some (.tup [.int q.1, .int q.2])
  | _, _, i, t, .nil, h => by simp at h
  | _, _, 0, t, .cons e r, h => by cases Option.some.inj h; exact ⟨_, rfl, e⟩
  | _, _, i + 1, t, .cons e r, h => r.at_ (i := i) h
def PrsAt (H : Hp) (l : Addr) (ps : List (Int × Int)) : Prop := ∃ ts : List Addr, H l = some (.lst (ts.map V.ref)) ∧ TsAt H ts ps
theorem PrsAt.same {H H' : Hp} {l : Addr} {ps : List (Int × Int)} (h : PrsAt H l ps) (s : ∀ q o, H q = some o → H' q = some o) : PrsAt H' l ps := by
  obtain ⟨ts, e, t⟩ := h
  exact ⟨ts, s _ _ e, t.same s⟩
def dPr (q : Int × Int) : PyData := .tuple [.int q.1, .int q.2]
theorem TsAt.dp {K : PySem.W.Frag} {H : Hp} : ∀ {ts : List Addr} {ps : List (Int × Int)}, TsAt H ts ps → DpAll K H (ts.map V.ref) (ps.map dPr)
  | _, _, .nil => .nil
  | _, _, .cons e r => .cons (.tup (SqT.of e) (.cons (.int _) (.cons (.int _) .nil))) r.dp
theorem PrsAt.dp {K : PySem.W.Frag} {H : Hp} {l : Addr} {ps : List (Int × Int)} (h : PrsAt H l ps) : Dp K H (.ref l) (.list (ps.map dPr)) := by
  obtain ⟨ts, e, t⟩ := h
  exact .lst (SqL.of e) t.dp
end Jg
namespace Jg
open PySem PySem.Spec PyProof.Rows L2
theorem TsAt.rows {H : Hp} : ∀ {ts : List Addr} {ps : List (Int × Int)}, TsAt H ts ps → ∃ rs : List (Addr × Int × Int), rs.map (·.1) = ts ∧ rs.map (·.2) = ps ∧ ∀ r ∈ rs, H r.1 = some (.tup [.int r.2.1, .int r.2.2])
  | _, _, .nil => ⟨[], rfl, rfl, fun _ h => nomatch h⟩
  | _, _, .cons (t := t) (a := x) (b := y) e h => by
    obtain ⟨rs, e1, e2, e3⟩ := h.rows
    refine ⟨(t, x, y) :: rs, by rw [List.map_cons, e1], by rw [List.map_cons, e2], fun r hr => ?_⟩
    rcases List.mem_cons.mp hr with rfl | hr
    · exact e
    · exact e3 r hr
end Jg
namespace Jg
open PySem PySem.Spec PyProof.Rows L2
abbrev Tr := Str × Int × Int
def Tr.v (q : Tr) : List V := [.str q.1, .int q.2.1, .int q.2.2]
inductive TtAt (H : Hp) : List Addr → List Tr → Prop
  | nil : TtAt H [] []
  | cons {t : Addr} {q : Tr} {ts : List Addr} {ps : List Tr} : H t = some (.tup (Tr.v q)) → TtAt H ts ps → TtAt H (t :: ts) (q :: ps)
theorem TtAt.same {H H' : Hp} (s : ∀ q o, H q = some o → H' q = some o) : ∀ {ts : List Addr} {ps : List Tr}, TtAt H ts ps → TtAt H' ts ps
  | _, _, .nil => .nil
  | _, _, .cons e r => .cons (s _ _ e) (r.same s)
theorem TtAt.mono {H H' : Hp} (s : ∀ q o, H q = some o → H' q = some o ∨ ∀ q : Tr, o ≠ .tup (Tr.v q)) : ∀ {ts : List Addr} {ps : List Tr}, TtAt H ts ps → TtAt H' ts ps
  | _, _, .nil => .nil
  | _, _, .cons e r => .cons (by rcases s _ _ e with z | z; exact z; exact absurd rfl (z _)) (r.mono s)
theorem TtAt.len {H : Hp} : ∀ {ts : List Addr} {ps : List Tr}, TtAt H ts ps → ts.length = ps.length
  | _, _, .nil => rfl
  | _, _, .cons e r => congrArg (· + 1) r.len
theorem TtAt.at_ {H : Hp} : ∀ {ts : List Addr} {ps : List Tr} {i : Nat} {t : Addr}, TtAt H ts ps → ts[i]? = some t → ∃ q, ps[i]? = some q ∧ H t = some (.tup (Tr.v q))
  | _, _, i, t, .nil, h => by simp at h
  | _, _, 0, t, .cons e r, h => by cases Option.some.inj h; exact ⟨_, rfl, e⟩
  | _, _, i + 1, t, .cons e r, h => r.at_ (i := i) h
def TrsAt (H : Hp) (l : Addr) (ps : List Tr) : Prop := ∃ ts : List Addr, H l = some (.lst (ts.map V.ref)) ∧ TtAt H ts ps
theorem TrsAt.same {H H' : Hp} {l : Addr} {ps : List Tr} (h : TrsAt H l ps) (s : ∀ q o, H q = some o → H' q = some o) : TrsAt H' l ps := by
  obtain ⟨ts, e, t⟩ := h
  exact ⟨ts, s _ _ e, t.same s⟩
def dTr (q : Tr) : PyData := .tuple [.str q.1, .int q.2.1, .int q.2.2]
theorem TtAt.dp {K : PySem.W.Frag} {H : Hp} : ∀ {ts : List Addr} {ps : List Tr}, TtAt H ts ps → DpAll K H (ts.map V.ref) (ps.map dTr)
  | _, _, .nil => .nil
  | _, _, .cons e r => .cons (.tup (SqT.of e) (.cons (.str _) (.cons (.int _) (.cons (.int _) .nil)))) r.dp
theorem TrsAt.dp {K : PySem.W.Frag} {H : Hp} {l : Addr} {ps : List Tr} (h : TrsAt H l ps) : Dp K H (.ref l) (.list (ps.map dTr)) := by
  obtain ⟨ts, e, t⟩ := h
  exact .lst (SqL.of e) t.dp
end Jg
namespace K26
open PySem PySem.Spec PyProof.Rows L2 Jg
/-- the lateness of a source -/
def LaIs (ks : K26F.Ks) (so : Option Str) (la : Int) : Prop := match so with
  | none => la = 1
  | some z => z ∈ ks.map (·.1) ∧ la = lateK ks z
section
variable {P : Program} {w : World} {K : PySem.W.Frag} {mg : Str → Option Value} {base : Heap} {C PC CU CE RC FC KC : Addr}
abbrev s_last_reading : Stmt := top 51
end
end K26
namespace K26
open PySem PySem.Spec PyProof.Rows L2 Jg
inductive Org
  | non
  | at (n : Int)
  | cp (n c : Int)
structure Mac where
  t : Addr
  z : Str
  b : Int
  o : Org
abbrev MW := Str × Int × Org
def Mac.v (m : Mac) : V := .ref m.t
def Mac.w (m : Mac) : MW := (m.z, m.b, m.o)
def OrgV (H : Hp) : Org → V → Prop
  | .non, v => v = .non
  | .at n, v => v = .int n
  | .cp n c, v => ∃ q, v = .ref q ∧ H q = some (.tup [.int n, .int c])
structure MacAt (H : Hp) (m : Mac) : Prop where
  ex : ∃ ov lp, H m.t = some (.tup [.str m.z, .int m.b, ov, .ref lp]) ∧ OrgV H m.o ov ∧ H lp = some (.tup [])
theorem OrgV.same {H H' : Hp} {o : Org} {v : V} (h : OrgV H o v) (s : Same H H') : OrgV H' o v := by
  cases o with
  | non => exact h
  | «at» n => exact h
  | cp n c => exact let ⟨q, e, h⟩ := h; ⟨q, e, s _ _ h⟩
theorem MacAt.same {H H' : Hp} {m : Mac} (h : MacAt H m) (s : Same H H') : MacAt H' m :=
  let ⟨ov, lp, a, b, c⟩ := h.ex
  ⟨ov, lp, s _ _ a, b.same s, s _ _ c⟩
end K26
namespace K26
open PySem PySem.Spec PyProof.Rows L2 Jg
structure HoF (PC C FC KC p f : Addr) (es : List Ed) (ks : K26F.Ks) (cl : List Cl) (kr : List KRow) (n : Nat) (H : Hp) : Prop where
  pl : PlAt PC C H p es
  fl : FlAt FC KC H f ks cl
  al : Alk ks kr
  k4 : kr.length ≤ 4
  hn : n < es.length
  mo : MsOk (mos es)
  sp : ∀ o, SpOk es (lateZ kr 5 o)
theorem HoF.same {PC C FC KC p f : Addr} {es : List Ed} {ks : K26F.Ks} {cl : List Cl} {kr : List KRow} {n : Nat} {H H' : Hp} (h : HoF PC C FC KC p f es ks cl kr n H) (s : Same H H') : HoF PC C FC KC p f es ks cl kr n H' :=
  ⟨h.pl.same s, h.fl.same s, h.al, h.k4, h.hn, h.mo, h.sp⟩
theorem HoF.la {PC C FC KC p f : Addr} {es : List Ed} {ks : K26F.Ks} {cl : List Cl} {kr : List KRow} {n : Nat} {H : Hp} (h : HoF PC C FC KC p f es ks cl kr n H) {i : Nat} {k : KRow} (hk : kr[i]? = some k) : LaIs ks k.r.s (lateZ kr 5 k.r.s) := by
  cases c : k.r.s with
  | none => exact lateZ_none kr 5
  | some y =>
    obtain ⟨j, k', lt, h', q⟩ := take_at (g := KRow.z) (h.al.ok.s i k y hk c)
    obtain ⟨x, kx⟩ := h.al.at_ h'
    rw [← q]
    exact ⟨List.mem_map.mpr ⟨_, List.mem_of_find?_eq_some kx, rfl⟩, (late_eq h.al h').symm⟩
section
variable {P : Program} {w : World} {K : PySem.W.Frag} {mg : Str → Option Value} {base : Heap} {C PC CU CE RC FC KC : Addr}
abbrev s_source_number : Stmt := top 53
abbrev s_source_machines : Stmt := top 52
abbrev s_holding_machines : Stmt := top 54
end
end K26
namespace K26
open PySem PySem.Spec PyProof.Rows L2 Jg
/-- name, beginning, number, last moment of use, the moment it is ready for a copy -/
abbrev PW := Str × Int × Int × Int × Option Int
def gZ (kr : List KRow) (z : Str) : Int := match kr.find? (fun k => decide (k.z = z)) with
  | none => 1
  | some k => k.r.g
def rdyO (b : Int) : Org → Option Int
  | .cp _ _ => none
  | _ => some b
def toP (kr : List KRow) (n : Int) (q : MW) : PW := (q.1, q.2.1, n, q.2.1 + gZ kr q.1 - 1, rdyO q.2.1 q.2.2)
def curI (ms : List Int) (m : Int) : Int := ((ms.filter fun x => decide (x ≤ m)).length : Int) - 1
/-- the machine q reads or copies the edition num, beside those that stand before it -/
def Fits (kr : List KRow) (ms : List Int) (els : List PW) (q : MW) (num : Int) : Prop := ∃ (j : Nat) (k : KRow), kr[j]? = some k ∧ k.z = q.1 ∧ match q.2.2 with
  | .non => k.r.s = none ∧ ms.getD 0 0 ≤ q.2.1 ∧ num = curI ms q.2.1
  | .at w => ∃ (y : Str) (i : Nat) (e : PW), k.r.s = some y ∧ w = (i : Int) ∧ els[i]? = some e ∧ e.1 = y ∧ e.2.1 ≤ q.2.1 ∧ q.2.1 ≤ e.2.2.2.1 ∧ num = e.2.2.1
  | .cp w c => ∃ (a : Int) (i : Nat) (e : PW) (r : Int), k.r.a = some a ∧ w = (i : Int) ∧ q.2.1 - a ≤ c ∧ c ≤ q.2.1 ∧ els[i]? = some e ∧ e.1 = q.1 ∧ e.2.2.2.2 = some r ∧ r ≤ c ∧ e.2.1 ≤ c ∧ c ≤ e.2.2.2.1 ∧ num = e.2.2.1
end K26
namespace K26
open PySem PySem.Spec PyProof.Rows L2 Jg
structure Plr where
  t : Addr
  w : PW
def Plr.v (q : Plr) : V := .ref q.t
structure PlrAt (H : Hp) (q : Plr) : Prop where
  ex : ∃ ls t1, H q.t = some (.tup [.str q.w.1, .ref ls, .int q.w.2.2.2.1, .non, K26F.oV q.w.2.2.2.2]) ∧ H ls = some (.lst [.ref t1]) ∧ H t1 = some (.tup [.int q.w.2.1, .int q.w.2.2.1])
theorem PlrAt.same {H H' : Hp} {q : Plr} (h : PlrAt H q) (s : Same H H') : PlrAt H' q :=
  let ⟨ls, t1, a, b, c⟩ := h.ex
  ⟨ls, t1, s _ _ a, s _ _ b, s _ _ c⟩
section
variable {P : Program} {w : World} {K : PySem.W.Frag} {mg : Str → Option Value} {base : Heap}
abbrev s_law_current : Stmt := top 90
abbrev s_law_holds : Stmt := top 91
end
end K26
namespace K26
open PySem PySem.Spec PyProof.Rows L2 Jg
section
variable {P : Program} {w : World} {K : PySem.W.Frag} {mg : Str → Option Value} {base : Heap}
abbrev s_law_reading : Stmt := top 92
abbrev s_law_copy : Stmt := top 93
end
end K26
namespace K26
open PySem PySem.Spec PyProof.Rows L2 Jg
section
variable {P : Program} {w : World} {K : PySem.W.Frag} {mg : Str → Option Value} {base : Heap} {C PC CU CE CM RC FC KC : Addr}
abbrev s_last_jump : Stmt := top 48
abbrev s_jump_pairs : Stmt := top 49
abbrev s_jumps : Stmt := top 56
end
end K26
namespace K26
open PySem PySem.Spec PyProof.Rows L2 Jg
open K26C (Td TdAt TdsAt)
section
variable {P : Program} {w : World} {K : PySem.W.Frag} {mg : Str → Option Value} {base : Heap}
abbrev s_law_pairs : Stmt := top 89
abbrev s_law_jumps : Stmt := top 88
end
end K26
namespace K26
open PySem PySem.Spec PyProof.Rows L2 Jg
open K26C (TdAt Td sgT)
abbrev Pull := Int × Option Int
def orgO : Option Int → Org
  | none => .non
  | some w => .at w
def PuL (H : Hp) (lp : Addr) : Option Pull → Prop
  | none => H lp = some (.tup [])
  | some (pm, pw) => ∃ pt, H lp = some (.tup [.ref pt]) ∧ H pt = some (.tup [.int pm, K26F.oV pw])
theorem PuL.same {H H' : Hp} {lp : Addr} {u : Option Pull} (h : PuL H lp u) (s : Same H H') : PuL H' lp u := by
  cases u with
  | none => exact s _ _ h
  | some p => exact let ⟨pt, a, b⟩ := h; ⟨pt, s _ _ a, s _ _ b⟩
structure MacU (H : Hp) (m : Mac) (u : Option Pull) : Prop where
  ex : ∃ ov lp, H m.t = some (.tup [.str m.z, .int m.b, ov, .ref lp]) ∧ OrgV H m.o ov ∧ PuL H lp u
theorem MacU.same {H H' : Hp} {m : Mac} {u : Option Pull} (h : MacU H m u) (s : Same H H') : MacU H' m u :=
  let ⟨ov, lp, a, b, c⟩ := h.ex
  ⟨ov, lp, s _ _ a, b.same s, c.same s⟩
theorem MacAt.u {H : Hp} {m : Mac} (h : MacAt H m) : MacU H m none := ⟨h.ex⟩
/-- a machine that was pulled over, as the law plays it -/
structure LaAt (H : Hp) (t ls : Addr) (z : Str) (b num pm j g : Int) (vb : Bool) : Prop where
  ex : ∃ (t1 : Addr) (lk rv : V), H t = some (.tup [.str z, .ref ls, .int (pm + g - 1), lk, rv]) ∧ H t1 = some (.tup [.int b, .int num]) ∧
    ((vb = true ∧ lk = .non ∧ ∃ t2, H ls = some (.lst [.ref t1, .ref t2]) ∧ H t2 = some (.tup [.int pm, .int j])) ∨ (vb = false ∧ H ls = some (.lst [.ref t1]) ∧ ∃ q3, lk = .ref q3 ∧ H q3 = some (.tup [.int pm, .int num, .int j])))
theorem LaAt.same {H H' : Hp} {t ls : Addr} {z : Str} {b num pm j g : Int} {vb : Bool} (h : LaAt H t ls z b num pm j g vb) (s : Same H H') : LaAt H' t ls z b num pm j g vb := by
  obtain ⟨t1, lk, rv, a, b1, c⟩ := h.ex
  refine ⟨t1, lk, rv, s _ _ a, s _ _ b1, ?_⟩
  rcases c with ⟨c1, c2, t2, c3, c4⟩ | ⟨c1, c2, q3, c3, c4⟩
  · exact .inl ⟨c1, c2, t2, s _ _ c3, s _ _ c4⟩
  · exact .inr ⟨c1, s _ _ c2, q3, c3, s _ _ c4⟩
section
variable {P : Program} {w : World} {K : PySem.W.Frag} {mg : Str → Option Value} {base : Heap}
abbrev s_law_machine : Stmt := top 94
end
end K26
namespace K26
open PySem PySem.Spec PyProof.Rows L2 Jg
section
variable {P : Program} {w : World} {K : PySem.W.Frag} {mg : Str → Option Value} {base : Heap} {C PC CU CE FC KC : Addr}
abbrev s_jump_run : Stmt := top 57
end
end K26
namespace K26
open PySem PySem.Spec PyProof.Rows L2 Jg
open K26C (TdAt Td sgT)
/-- the machines fit one after another, and are played as ps -/
structure Plays (kr : List KRow) (ms : List Int) (L : List MW) (ps : List PW) : Prop where
  len : ps.length = L.length
  fit : ∀ (i : Nat) (q : MW), L[i]? = some q → ∃ num, Fits kr ms (ps.take i) q num ∧ ps[i]? = some (toP kr num q)
/-- machines that are played, the last one pulled over -/
structure PlF (lk lm tm lt : Addr) (kr : List KRow) (ms : List Int) (mcs : List Mac) (mc : Mac) (ps : List PW) (pm : Int) (pw : Option Int) (n1 n2 : Nat) (a1 a2 : Addr) (tq : List Addr) (d1 d2 : Td) (H : Hp) : Prop where
  ek : H lk = some (.lst (kr.map fun k => V.ref k.t))
  ka : ∀ k ∈ kr, KrAt H k
  ko : KrOk kr
  kn : kr.length ≤ 100
  em : H lm = some (.lst (ms.map V.int))
  m1 : 1 ≤ ms.length
  m9 : ms.length ≤ 100
  et : H tm = some (.tup (mcs.map Mac.v ++ [.ref mc.t]))
  at_ : ∀ q ∈ mcs, MacAt H q
  la : MacU H mc (some (pm, pw))
  l40 : mcs.length ≤ 38
  pl : Plays kr ms (mcs.map Mac.w) ps
  f1 : Fits kr ms ps mc.w (n1 : Int)
  f2 : Fits kr ms ps (mc.z, pm, orgO pw) (n2 : Int)
  lo : mc.b < pm
  hi : pm ≤ mc.b + gZ kr mc.z
  nn : n1 < n2
  el : H lt = some (.lst (tq.map V.ref))
  q1 : tq[n1]? = some a1
  q2 : tq[n2]? = some a2
  t1 : TdAt H a1 d1
  t2 : TdAt H a2 d2
  few : (sgT d2).length ≤ 500
section
variable {P : Program} {w : World} {K : PySem.W.Frag} {mg : Str → Option Value} {base : Heap}
abbrev s_law_played : Stmt := top 95
end
end K26
namespace K26
open PySem PySem.Spec PyProof.Rows L2 Jg
open K26C (TdAt Td sgT)
theorem PlF.same {lk lm tm lt : Addr} {kr : List KRow} {ms : List Int} {mcs : List Mac} {mc : Mac} {ps : List PW} {pm : Int} {pw : Option Int} {n1 n2 : Nat} {a1 a2 : Addr} {tq : List Addr} {d1 d2 : Td} {H H' : Hp} (h : PlF lk lm tm lt kr ms mcs mc ps pm pw n1 n2 a1 a2 tq d1 d2 H) (s : Same H H') : PlF lk lm tm lt kr ms mcs mc ps pm pw n1 n2 a1 a2 tq d1 d2 H' :=
  ⟨s _ _ h.ek, fun k hk => s _ _ (h.ka k hk), h.ko, h.kn, s _ _ h.em, h.m1, h.m9, s _ _ h.et, fun q hq => (h.at_ q hq).same s, h.la.same s, h.l40, h.pl, h.f1, h.f2, h.lo, h.hi, h.nn, s _ _ h.el, h.q1, h.q2, h.t1.same s, h.t2.same s, h.few⟩
section
variable {P : Program} {w : World} {K : PySem.W.Frag} {mg : Str → Option Value} {base : Heap}
abbrev s_law_is_shown : Stmt := top 97
end
end K26
namespace K26
open PySem PySem.Spec PyProof.Rows L2 Jg
open K26C (StA SameB Wd hid hid_in hid_get)
structure TstF (K : PySem.W.Frag) (CU CE : Addr) : Prop where
  xEU : PySem.W.exmOne K (.ref CE) (.ref CU) = some false
abbrev s_law_failed : Stmt := top 98
open K26C (hid hid_in hid_get)
theorem hid_keep {M : List Addr} {H H' : Hp} (s : Same H H') : Same (hid M H) (hid M H') := fun q o e => hid_in (s _ _ (hid_get e).1) (hid_get e).2
def Mono (P : Hp → V → Prop) : Prop := ∀ H H' v, Same H H' → P H v → P H' v
structure Gv (H0 : Hp) (σ : L2.St) (te : TE) (P : Hp → V → Prop) : Prop where
  mo : Mono P
  run : ∀ (M : List Addr) (H : Hp) (Q : VK), Same H0 (hid M H) → (∀ q ∈ M, H q ≠ none) → (∀ v H', Same H H' → P (hid M H') v → Q v H') → te σ H Q
theorem Gv.imp {H0 : Hp} {σ : L2.St} {te : TE} {P P' : Hp → V → Prop} (h : Gv H0 σ te P) (mo : Mono P') (i : ∀ H v, Same H0 H → P H v → P' H v) : Gv H0 σ te P' := ⟨mo, fun M H Q s n q => h.run M H Q s n fun v H' s' p => q v H' s' (i _ v (s.trans (hid_keep s')) p)⟩
theorem Tabs.same {T : List (Addr × Str)} {H H' : Hp} (t : LamX.Tabs T H) (s : Same H H') : LamX.Tabs T H' := LamX.Tabs.ext t s
def ShwF (K : PySem.W.Frag) (H : Hp) (y : V) : Prop := ∃ tx, okW tx ∧ ∀ H', Same H H' → Shw K H' y tx
theorem ShwF.keep {K : PySem.W.Frag} {H H' : Hp} {y : V} (h : ShwF K H y) (s : Same H H') : ShwF K H' y := let ⟨t, o, k⟩ := h; ⟨t, o, fun H2 s2 => k H2 (s.trans s2)⟩
def Fc (d : PyData) : Prop := ∀ c ∈ tlS d.shown, c < 0x110000
theorem Fc.ok {d : PyData} (h : Fc d) : okW d.shown := by
  show PyData.strOk _ = true
  unfold PyData.strOk
  exact Array.all_eq_true_iff_forall_mem.mpr fun c hc => decide_eq_true (h c (by unfold tlS; exact Array.mem_toList_iff.mpr hc))
end K26
namespace K26
open PySem PySem.Spec PyProof.Rows L2 Jg
open K26C (StA SameB Wd hid hid_in hid_get)
abbrev s_law_refused_right : Stmt := top 99
theorem tabs_off {T : List (Addr × Str)} {H H' : Hp} {l : Addr} {xs : List V} (t : LamX.Tabs T H) (el : H l = some (.lst xs)) (s : ∀ q o, H q = some o → q ≠ l → H' q = some o) : LamX.Tabs T H' := fun x hx => by
  obtain ⟨ps, h1, h2, h3⟩ := t x hx
  have ne : ∀ {q : Addr} {o : HO}, H q = some o → (∀ ys, o ≠ .lst ys) → q ≠ l := fun e n z => by rw [z, el] at e; exact n xs (Option.some.inj e).symm
  refine ⟨ps, s _ _ h1 (ne h1 fun _ z => nomatch z), h2, fun pos cv hc => ?_⟩
  obtain ⟨c, e1, e2⟩ := h3 pos cv hc
  exact ⟨c, e1, s _ _ e2 (ne e2 fun _ z => by unfold LamX.CodeO at z; cases z)⟩
end K26
namespace K26
open PySem PySem.Spec PyProof.Rows L2 Jg
open K26C (StA SameB Wd hid hid_in hid_get)
theorem hid_sb {p : Addr} {M : List Addr} {H H' : Hp} (s : SameB p H H') (m : p ∈ M) : Same (hid M H) (hid M H') := fun q o e => by
  obtain ⟨e1, e2⟩ := hid_get e
  exact hid_in (s _ _ e1 fun z => e2 (z ▸ m)) e2
theorem tabs_keepB {T : List (Addr × Str)} {H H' : Hp} {p : Addr} (t : LamX.Tabs T H) (st : StA H p) (s : SameB p H H') : LamX.Tabs T H' := by
  obtain ⟨a, b, e, _⟩ := st
  exact tabs_off t e s
structure RtF (es : List Ed) (ks : K26F.Ks) (cl : List Cl) (e0 : Ed) (kr : List KRow) (ms : List Int) : Prop where
  al : Alk ks kr
  k1 : 1 ≤ kr.length
  k4 : kr.length ≤ 4
  mo : MsOk ms
  me : mos es = ms
  m1 : 1 ≤ ms.length
  m7 : ms.length ≤ 7
  e00 : es[0]? = some e0
  mr : missR cl (e0.c.us.map (·.z)) = none
theorem RtF.le {es : List Ed} {ks : K26F.Ks} {cl : List Cl} {e0 : Ed} {kr : List KRow} {ms : List Int} (F : RtF es ks cl e0 kr ms) : es.length = ms.length := by rw [← F.me]; unfold mos; rw [List.length_map]
open K26C (Td TdAt TdsAt TdG Ww sgT)
end K26
namespace K26
open PySem PySem.Spec PyProof.Rows L2 Jg
open K26C (StA SameB Wd hid hid_in hid_get)
structure Lw (PC C FC KC p lk lm lt pl f d c : Addr) (TL : List (Addr × Str)) (kr : List KRow) (ms : List Int) (qs : List Addr) (ds : List K26C.Td) (parts keys hands : List Str) (ks : K26F.Ks) (cl : List Cl) (es : List Ed) (H1 H : Hp) : Prop where
  ek : H lk = some (.lst (kr.map fun k => V.ref k.t))
  ka : ∀ k ∈ kr, KrAt H k
  em : H lm = some (.lst (ms.map V.int))
  mp : lm ≠ p
  et : H lt = some (.lst (qs.map V.ref))
  td : K26C.TdsAt parts keys hands H qs ds
  st : StA H p
  pc : PlAt PC C (hid [p, c] H) pl es
  fc : K26F.FltAt FC KC (hid [p] H) f d c ks (cl.map fun q => V.ref q.t)
  cc : ∀ q ∈ cl, ClAt (hid [p] H) q
  sm : Same H1 H
  tb : LamX.Tabs TL H
  np : H1 p = none
  nc : H1 c = none
section
variable {PC C FC KC p lk lm lt pl f d c : Addr} {TL : List (Addr × Str)} {kr : List KRow} {ms : List Int} {qs : List Addr} {ds : List K26C.Td} {parts keys hands : List Str} {ks : K26F.Ks} {cl : List Cl} {es : List Ed} {H1 H H' : Hp}
theorem Lw.keep (h : Lw PC C FC KC p lk lm lt pl f d c TL kr ms qs ds parts keys hands ks cl es H1 H) (s : SameB p H H') (st : StA H' p) : Lw PC C FC KC p lk lm lt pl f d c TL kr ms qs ds parts keys hands ks cl es H1 H' :=
  have s1 : Same (hid [p] H) (hid [p] H') := hid_sb s (by simp)
  have s2 : Same (hid [p, c] H) (hid [p, c] H') := hid_sb s (by simp)
  ⟨s _ _ h.ek (h.st.no h.ek frefs_no), fun k hk => (h.ka k hk).keep h.st s, s _ _ h.em h.mp, h.mp, s _ _ h.et (h.st.no h.et K26C.refs_no), h.td.keep h.st s, st, h.pc.same s2, h.fc.keep s1, fun q hq => s1 _ _ (h.cc q hq), SameB.out h.sm s h.np, tabs_keepB h.tb h.st s, h.np, h.nc⟩
theorem Lw.same (h : Lw PC C FC KC p lk lm lt pl f d c TL kr ms qs ds parts keys hands ks cl es H1 H) (s : Same H H') : Lw PC C FC KC p lk lm lt pl f d c TL kr ms qs ds parts keys hands ks cl es H1 H' := h.keep (SameB.of s) (h.st.keep s)
end
abbrev s_law : Stmt := top 100
end K26
namespace K26
open PySem PySem.Spec PyProof.Rows L2 Jg
open K26C (StA SameB Wd hid hid_in hid_get)
theorem LM_eq : LM = 10000000000000000000000000000000000000000 := by decide +kernel
theorem ExnF_of {K : PySem.W.Frag} {h : Heap} {mg : Str → Option Value} {x : Str} {CI : Addr} {qual : Str} {st : Stmt} {f : Str} {B nid iid : String} {line : List Value} {fI : Addr} {oc : Value} {od an : Option Addr} {osl : Array (Option Value)} {kV doc pm cdv ct : Value}
    (X : K.In h) (G : h.Ns mainGlobals mg) (fB : ExcBaseFacts B nid iid line) (sB : StoreFacts B line "object.__setattr__" "object") (aI : PySem.W.nsIn K mainGlobals x = some (some (.ref CI))) (xI : PySem.W.excInitIn K CI line nid = true) (xO : PySem.W.excOver K CI line = true)
    (sa : PySem.W.findIn K (.ref CI) "__setattr__" = some (some (.builtin "object.__setattr__"))) (exC : PySem.W.subIn K (.ref CI) (.type "BaseException") = some true) (tyC : PySem.W.typeIn K (.ref CI) = some (.type "type")) (kC : PySem.W.keepIn K (.ref CI) = true)
    (ga : PySem.W.findIn K (.ref CI) "__getattribute__" = some (some (.builtin "BaseException.__getattribute__"))) (gg : PySem.W.findIn K (.ref CI) "__getattr__" = some none) (hdC : PySem.W.hasDictIn K CI = true)
    (ha : PySem.W.findIn K (.ref CI) "__class__" = some (some (.builtin "object.__class__"))) (hn : PySem.W.specialIn K (.builtin "object.__class__") "__get__" = some (some (.builtin "getset_descriptor.__get__"))) (ht : PySem.W.takesIn K (.builtin "object.__class__") = some true) (hm : PySem.W.mroIn K CI (.type "object") = some true)
    (no : PySem.W.findIn K (.ref CI) f = some none) (iI : PySem.W.findIn K (.ref CI) "__init__" = some (some (.ref fI))) (tI : PySem.W.typeIn K (.ref fI) = some (.type "function"))
    (l : K.lookup fI = some ⟨oc, od, .func (PySem.W.fnOf "__init__" qual (defArgs st) (defBody st) (defScope st) .none kV doc pm an cdv ct), osl⟩) (c : PySem.W.codeIn K cdv qual = true) (k : PySem.W.keepIn K (.ref fI) = true)
    (sC : PySem.W.subIn K (.ref CI) (.ref CI) = some true) : K26F.ExnQ K mg x CI qual st f :=
  ⟨PySem.W.mg_of X G aI, ⟨B, nid, iid, line, fB, sB, xI, xO, hdC, sa, exC, tyC, kC⟩, ⟨⟨ga, gg, exC, hdC⟩, ha, hn, ht, hm⟩, no, ⟨fI, _, fun_mk l c k, iI, tI⟩, PySem.W.exm_ref exC hdC tyC sC⟩
theorem K26C_Txt_of {K : PySem.W.Frag} {mg : Str → Option Value} {h : Heap} {t_g_MOST_ROLES : Tok} {t_g_MOST_ACCEPTED : Tok} {t_g_MOST_VOUCHERS : Tok} {t_g_MOST_NEEDED : Tok} (X : K.In h) (G : h.Ns mainGlobals mg) (h_b_isinstance : PySem.W.nsIn K mainGlobals "isinstance" = some none) (h_b_int : PySem.W.nsIn K mainGlobals "int" = some none) (h_b_bool : PySem.W.nsIn K mainGlobals "bool" = some none) (h_b_str : PySem.W.nsIn K mainGlobals "str" = some none) (h_b_list : PySem.W.nsIn K mainGlobals "list" = some none) (h_b_tuple : PySem.W.nsIn K mainGlobals "tuple" = some none) (h_b_dict : PySem.W.nsIn K mainGlobals "dict" = some none) (h_b_len : PySem.W.nsIn K mainGlobals "len" = some none) (h_b_all : PySem.W.nsIn K mainGlobals "all" = some none) (h_b_any : PySem.W.nsIn K mainGlobals "any" = some none) (h_b_set : PySem.W.nsIn K mainGlobals "set" = some none) (h_b_sorted : PySem.W.nsIn K mainGlobals "sorted" = some none) (h_b_max : PySem.W.nsIn K mainGlobals "max" = some none) (h_b_min : PySem.W.nsIn K mainGlobals "min" = some none) (h_b_range : PySem.W.nsIn K mainGlobals "range" = some none) (h_b_repr : PySem.W.nsIn K mainGlobals "repr" = some none) (h_b_sum : PySem.W.nsIn K mainGlobals "sum" = some none) (h_g_MOST_ROLES : PySem.W.nsIn K mainGlobals "_MOST_ROLES" = some (some (.int 3 t_g_MOST_ROLES))) (h_g_MOST_ACCEPTED : PySem.W.nsIn K mainGlobals "_MOST_ACCEPTED" = some (some (.int 8 t_g_MOST_ACCEPTED))) (h_g_MOST_VOUCHERS : PySem.W.nsIn K mainGlobals "_MOST_VOUCHERS" = some (some (.int 4 t_g_MOST_VOUCHERS))) (h_g_MOST_NEEDED : PySem.W.nsIn K mainGlobals "_MOST_NEEDED" = some (some (.int 4 t_g_MOST_NEEDED))) : K26C.Txt K mg :=
  ⟨PySem.W.mg_none_of X G h_b_isinstance, PySem.W.mg_none_of X G h_b_int, PySem.W.mg_none_of X G h_b_bool, PySem.W.mg_none_of X G h_b_str, PySem.W.mg_none_of X G h_b_list, PySem.W.mg_none_of X G h_b_tuple, PySem.W.mg_none_of X G h_b_dict, PySem.W.mg_none_of X G h_b_len, PySem.W.mg_none_of X G h_b_all, PySem.W.mg_none_of X G h_b_any, PySem.W.mg_none_of X G h_b_set, PySem.W.mg_none_of X G h_b_sorted, PySem.W.mg_none_of X G h_b_max, PySem.W.mg_none_of X G h_b_min, PySem.W.mg_none_of X G h_b_range, PySem.W.mg_none_of X G h_b_repr, PySem.W.mg_none_of X G h_b_sum, ⟨_, PySem.W.mg_of X G h_g_MOST_ROLES, t_g_MOST_ROLES, rfl⟩, ⟨_, PySem.W.mg_of X G h_g_MOST_ACCEPTED, t_g_MOST_ACCEPTED, rfl⟩, ⟨_, PySem.W.mg_of X G h_g_MOST_VOUCHERS, t_g_MOST_VOUCHERS, rfl⟩, ⟨_, PySem.W.mg_of X G h_g_MOST_NEEDED, t_g_MOST_NEEDED, rfl⟩⟩
theorem K26C_CTx_of {K : PySem.W.Frag} {mg : Str → Option Value} {C : Addr} {h : Heap} (X : K.In h) (G : h.Ns mainGlobals mg) (h_cl1 : PySem.W.plainGet K C Str.empty = true) (h_cl2 : PySem.W.hasDictIn K C = true) (h_cl3 : PySem.W.plainOver K C = true) (h_cl4 : PySem.W.findIn K (.ref C) "__setattr__" = some (some (.builtin "object.__setattr__"))) (h_cC : PySem.W.nsIn K mainGlobals "Contents" = some (some (.ref C))) (h_cls_ : PySem.W.findIn K (.ref C) "__class__" = some (some (.builtin "object.__class__"))) (h_cgt : PySem.W.specialIn K (.builtin "object.__class__") "__get__" = some (some (.builtin "getset_descriptor.__get__"))) (h_ctk : PySem.W.takesIn K (.builtin "object.__class__") = some true) (h_mro : PySem.W.mroIn K C (.type "object") = some true) (h_ne : PySem.W.findIn K (.ref C) "__ne__" = some (some (.builtin "object.__ne__"))) (h_kCC : PySem.W.kitOne K (.ref C) (.ref C) = some true) (h_kN : PySem.W.kitOne K (.type "NoneType") (.ref C) = some false) (h_kI : PySem.W.kitOne K (.type "int") (.ref C) = some false) (h_kS : PySem.W.kitOne K (.type "str") (.ref C) = some false) (h_kL : PySem.W.kitOne K (.type "list") (.ref C) = some false) (h_kT : PySem.W.kitOne K (.type "tuple") (.ref C) = some false) (h_kD : PySem.W.kitOne K (.type "dict") (.ref C) = some false) (h_oCC : PySem.W.notFirst K C (.ref C) = true) (h_oN : PySem.W.notFirst K C (.type "NoneType") = true) (h_oI : PySem.W.notFirst K C (.type "int") = true) (h_oS : PySem.W.notFirst K C (.type "str") = true) (h_oL : PySem.W.notFirst K C (.type "list") = true) (h_oT : PySem.W.notFirst K C (.type "tuple") = true) (h_oD : PySem.W.notFirst K C (.type "dict") = true) (h_nu : PySem.W.findIn K (.ref C) "_uses" = some none) (h_nv : PySem.W.findIn K (.ref C) "_vouchers" = some none) (h_nn : PySem.W.findIn K (.ref C) "_needed" = some none) (h_ns : PySem.W.findIn K (.ref C) "_signers" = some none) : K26C.CTx K mg C :=
  ⟨⟨h_cl1, h_cl2, h_cl3, h_cl4⟩, PySem.W.mg_of X G h_cC, h_cls_, h_cgt, h_ctk, h_mro, h_ne, h_kCC, h_kN, h_kI, h_kS, h_kL, h_kT, h_kD, h_oCC, h_oN, h_oI, h_oS, h_oL, h_oT, h_oD, h_nu, h_nv, h_nn, h_ns⟩
theorem K26F_Txt_of {K : PySem.W.Frag} {mg : Str → Option Value} {C : Addr} {h : Heap} {t_gMOST_KINDS : Tok} {t_g_LONGEST_CHAIN : Tok} (X : K.In h) (G : h.Ns mainGlobals mg) (h_cl1 : PySem.W.plainGet K C Str.empty = true) (h_cl2 : PySem.W.hasDictIn K C = true) (h_cl3 : PySem.W.plainOver K C = true) (h_cl4 : PySem.W.findIn K (.ref C) "__setattr__" = some (some (.builtin "object.__setattr__"))) (h_ng : PySem.W.findIn K (.ref C) "_gap" = some none) (h_na : PySem.W.findIn K (.ref C) "_age" = some none) (h_ns : PySem.W.findIn K (.ref C) "_source" = some none) (h_cKind : PySem.W.nsIn K mainGlobals "Kind" = some (some (.ref C))) (h_gLONGEST : ∃ u, mg "LONGEST" = some u ∧ L2.RelV (.int 1000000000000000000000000000000) u) (h_b_isinstance : PySem.W.nsIn K mainGlobals "isinstance" = some none) (h_b_int : PySem.W.nsIn K mainGlobals "int" = some none) (h_b_bool : PySem.W.nsIn K mainGlobals "bool" = some none) (h_b_str : PySem.W.nsIn K mainGlobals "str" = some none) (h_b_tuple : PySem.W.nsIn K mainGlobals "tuple" = some none) (h_b_len : PySem.W.nsIn K mainGlobals "len" = some none) (h_b_max : PySem.W.nsIn K mainGlobals "max" = some none) (h_b_min : PySem.W.nsIn K mainGlobals "min" = some none) (h_b_range : PySem.W.nsIn K mainGlobals "range" = some none) (h_b_repr : PySem.W.nsIn K mainGlobals "repr" = some none) (h_gMOST_KINDS : PySem.W.nsIn K mainGlobals "MOST_KINDS" = some (some (.int 5 t_gMOST_KINDS))) (h_g_LONGEST_CHAIN : PySem.W.nsIn K mainGlobals "_LONGEST_CHAIN" = some (some (.int 4 t_g_LONGEST_CHAIN))) (h_b_any : PySem.W.nsIn K mainGlobals "any" = some none) (h_b_set : PySem.W.nsIn K mainGlobals "set" = some none) (h_b_dict : PySem.W.nsIn K mainGlobals "dict" = some none) (h_b_list : PySem.W.nsIn K mainGlobals "list" = some none) (h_b_sorted : PySem.W.nsIn K mainGlobals "sorted" = some none) (h_cls_ : PySem.W.findIn K (.ref C) "__class__" = some (some (.builtin "object.__class__"))) (h_cgt : PySem.W.specialIn K (.builtin "object.__class__") "__get__" = some (some (.builtin "getset_descriptor.__get__"))) (h_ctk : PySem.W.takesIn K (.builtin "object.__class__") = some true) (h_mro : PySem.W.mroIn K C (.type "object") = some true) (h_ne : PySem.W.findIn K (.ref C) "__ne__" = some (some (.builtin "object.__ne__"))) (h_kCC : PySem.W.kitOne K (.ref C) (.ref C) = some true) (h_kN : PySem.W.kitOne K (.type "NoneType") (.ref C) = some false) (h_kI : PySem.W.kitOne K (.type "int") (.ref C) = some false) (h_kS : PySem.W.kitOne K (.type "str") (.ref C) = some false) (h_kL : PySem.W.kitOne K (.type "list") (.ref C) = some false) (h_kT : PySem.W.kitOne K (.type "tuple") (.ref C) = some false) (h_kD : PySem.W.kitOne K (.type "dict") (.ref C) = some false) (h_oCC : PySem.W.notFirst K C (.ref C) = true) (h_oN : PySem.W.notFirst K C (.type "NoneType") = true) (h_oI : PySem.W.notFirst K C (.type "int") = true) (h_oS : PySem.W.notFirst K C (.type "str") = true) (h_oL : PySem.W.notFirst K C (.type "list") = true) (h_oT : PySem.W.notFirst K C (.type "tuple") = true) (h_oD : PySem.W.notFirst K C (.type "dict") = true) : K26F.Txt K mg C :=
  ⟨⟨h_cl1, h_cl2, h_cl3, h_cl4⟩, h_ng, h_na, h_ns, PySem.W.mg_of X G h_cKind, (by rw [K26F.L_eq]; exact h_gLONGEST), PySem.W.mg_none_of X G h_b_isinstance, PySem.W.mg_none_of X G h_b_int, PySem.W.mg_none_of X G h_b_bool, PySem.W.mg_none_of X G h_b_str, PySem.W.mg_none_of X G h_b_tuple, PySem.W.mg_none_of X G h_b_len, PySem.W.mg_none_of X G h_b_max, PySem.W.mg_none_of X G h_b_min, PySem.W.mg_none_of X G h_b_range, PySem.W.mg_none_of X G h_b_repr, ⟨_, PySem.W.mg_of X G h_gMOST_KINDS, t_gMOST_KINDS, rfl⟩, ⟨_, PySem.W.mg_of X G h_g_LONGEST_CHAIN, t_g_LONGEST_CHAIN, rfl⟩, PySem.W.mg_none_of X G h_b_any, PySem.W.mg_none_of X G h_b_set, PySem.W.mg_none_of X G h_b_dict, PySem.W.mg_none_of X G h_b_list, PySem.W.mg_none_of X G h_b_sorted, h_cls_, h_cgt, h_ctk, h_mro, h_ne, h_kCC, h_kN, h_kI, h_kS, h_kL, h_kT, h_kD, h_oCC, h_oN, h_oI, h_oS, h_oL, h_oT, h_oD⟩
theorem K26F_FTx_of {K : PySem.W.Frag} {mg : Str → Option Value} {F : Addr} {h : Heap} {g_fn : Addr} (X : K.In h) (G : h.Ns mainGlobals mg) (h_cl1 : PySem.W.plainGet K F Str.empty = true) (h_cl2 : PySem.W.hasDictIn K F = true) (h_cl3 : PySem.W.plainOver K F = true) (h_cl4 : PySem.W.findIn K (.ref F) "__setattr__" = some (some (.builtin "object.__setattr__"))) (h_nk : PySem.W.findIn K (.ref F) "_kinds" = some none) (h_nc : PySem.W.findIn K (.ref F) "_calls" = some none) (h_cFleet : PySem.W.nsIn K mainGlobals "Fleet" = some (some (.ref F))) (h_ns : PySem.W.noSeq K F = true) (h_fn1 : PySem.W.findIn K (.ref F) "__getitem__" = some (some (.ref g_fn))) (h_fn2 : PySem.W.fnIn K g_fn = true) : K26F.FTx K mg F :=
  ⟨⟨h_cl1, h_cl2, h_cl3, h_cl4⟩, h_nk, h_nc, PySem.W.mg_of X G h_cFleet, h_ns, fun x e => by rw [h_fn1] at e; cases e; exact h_fn2⟩
theorem K26F_TxM_of {K : PySem.W.Frag} {mg : Str → Option Value} {h : Heap} {t_gMOST_CALLS : Tok} (X : K.In h) (G : h.Ns mainGlobals mg) (h_gMOST_CALLS : PySem.W.nsIn K mainGlobals "MOST_CALLS" = some (some (.int 6 t_gMOST_CALLS))) (h_b_zip : PySem.W.nsIn K mainGlobals "zip" = some none) : K26F.TxM K mg :=
  ⟨⟨_, PySem.W.mg_of X G h_gMOST_CALLS, t_gMOST_CALLS, rfl⟩, PySem.W.mg_none_of X G h_b_zip⟩
theorem K26R_Txt_of {K : PySem.W.Frag} {mg : Str → Option Value} {C : Addr} {h : Heap} (X : K.In h) (G : h.Ns mainGlobals mg) (h_cl1 : PySem.W.plainGet K C Str.empty = true) (h_cl2 : PySem.W.hasDictIn K C = true) (h_cl3 : PySem.W.plainOver K C = true) (h_cl4 : PySem.W.findIn K (.ref C) "__setattr__" = some (some (.builtin "object.__setattr__"))) (h_nl : PySem.W.findIn K (.ref C) "_low" = some none) (h_nh : PySem.W.findIn K (.ref C) "_high" = some none) (h_sf : PySem.W.selfFirst K C = true) (h_cRange : PySem.W.nsIn K mainGlobals "Range" = some (some (.ref C))) (h_gBOUND : ∃ u, mg "BOUND" = some u ∧ L2.RelV (.int 1000000000000000000000000000000000000000000000000000000000000) u) (h_b_isinstance : PySem.W.nsIn K mainGlobals "isinstance" = some none) (h_b_int : PySem.W.nsIn K mainGlobals "int" = some none) (h_b_bool : PySem.W.nsIn K mainGlobals "bool" = some none) (h_b_str : PySem.W.nsIn K mainGlobals "str" = some none) (h_b_len : PySem.W.nsIn K mainGlobals "len" = some none) (h_b_max : PySem.W.nsIn K mainGlobals "max" = some none) (h_b_min : PySem.W.nsIn K mainGlobals "min" = some none) (h_b_range : PySem.W.nsIn K mainGlobals "range" = some none) (h_b_repr : PySem.W.nsIn K mainGlobals "repr" = some none) (h_b_sorted : PySem.W.nsIn K mainGlobals "sorted" = some none) (h_b_set : PySem.W.nsIn K mainGlobals "set" = some none) (h_cls_ : PySem.W.findIn K (.ref C) "__class__" = some (some (.builtin "object.__class__"))) (h_cgt : PySem.W.specialIn K (.builtin "object.__class__") "__get__" = some (some (.builtin "getset_descriptor.__get__"))) (h_ctk : PySem.W.takesIn K (.builtin "object.__class__") = some true) (h_mro : PySem.W.mroIn K C (.type "object") = some true) (h_kCC : PySem.W.kitOne K (.ref C) (.ref C) = some true) (h_kN : PySem.W.kitOne K (.type "NoneType") (.ref C) = some false) (h_kB : PySem.W.kitOne K (.type "bool") (.ref C) = some false) (h_kI : PySem.W.kitOne K (.type "int") (.ref C) = some false) (h_kS : PySem.W.kitOne K (.type "str") (.ref C) = some false) (h_kL : PySem.W.kitOne K (.type "list") (.ref C) = some false) (h_kT : PySem.W.kitOne K (.type "tuple") (.ref C) = some false) (h_kD : PySem.W.kitOne K (.type "dict") (.ref C) = some false) (h_kCi : PySem.W.kitOne K (.ref C) (.type "int") = some false) (h_oCC : PySem.W.notFirst K C (.ref C) = true) : K26R.Txt K mg C :=
  ⟨⟨h_cl1, h_cl2, h_cl3, h_cl4⟩, h_nl, h_nh, h_sf, PySem.W.mg_of X G h_cRange, (by rw [K26R.B_eq]; exact h_gBOUND), PySem.W.mg_none_of X G h_b_isinstance, PySem.W.mg_none_of X G h_b_int, PySem.W.mg_none_of X G h_b_bool, PySem.W.mg_none_of X G h_b_str, PySem.W.mg_none_of X G h_b_len, PySem.W.mg_none_of X G h_b_max, PySem.W.mg_none_of X G h_b_min, PySem.W.mg_none_of X G h_b_range, PySem.W.mg_none_of X G h_b_repr, PySem.W.mg_none_of X G h_b_sorted, PySem.W.mg_none_of X G h_b_set, h_cls_, h_cgt, h_ctk, h_mro, h_kCC, h_kN, h_kB, h_kI, h_kS, h_kL, h_kT, h_kD, h_kCi, h_oCC⟩
theorem TxP_of {K : PySem.W.Frag} {mg : Str → Option Value} {h : Heap} {t_gMOST_EDITIONS : Tok} (X : K.In h) (G : h.Ns mainGlobals mg) (h_g_LAST_MOMENT : ∃ u, mg "_LAST_MOMENT" = some u ∧ L2.RelV (.int 10000000000000000000000000000000000000000) u) (h_gMOST_EDITIONS : PySem.W.nsIn K mainGlobals "MOST_EDITIONS" = some (some (.int 7 t_gMOST_EDITIONS))) (h_b_isinstance : PySem.W.nsIn K mainGlobals "isinstance" = some none) (h_b_tuple : PySem.W.nsIn K mainGlobals "tuple" = some none) (h_b_list : PySem.W.nsIn K mainGlobals "list" = some none) (h_b_len : PySem.W.nsIn K mainGlobals "len" = some none) (h_b_enumerate : PySem.W.nsIn K mainGlobals "enumerate" = some none) (h_b_range : PySem.W.nsIn K mainGlobals "range" = some none) (h_b_zip : PySem.W.nsIn K mainGlobals "zip" = some none) (h_b_max : PySem.W.nsIn K mainGlobals "max" = some none) (h_b_min : PySem.W.nsIn K mainGlobals "min" = some none) (h_b_repr : PySem.W.nsIn K mainGlobals "repr" = some none) : TxP K mg :=
  ⟨(by rw [LM_eq]; exact h_g_LAST_MOMENT), ⟨_, PySem.W.mg_of X G h_gMOST_EDITIONS, t_gMOST_EDITIONS, rfl⟩, PySem.W.mg_none_of X G h_b_isinstance, PySem.W.mg_none_of X G h_b_tuple, PySem.W.mg_none_of X G h_b_list, PySem.W.mg_none_of X G h_b_len, PySem.W.mg_none_of X G h_b_enumerate, PySem.W.mg_none_of X G h_b_range, PySem.W.mg_none_of X G h_b_zip, PySem.W.mg_none_of X G h_b_max, PySem.W.mg_none_of X G h_b_min, PySem.W.mg_none_of X G h_b_repr⟩
theorem PTx_of {K : PySem.W.Frag} {mg : Str → Option Value} {PC : Addr} {h : Heap} (X : K.In h) (G : h.Ns mainGlobals mg) (h_cl1 : PySem.W.plainGet K PC Str.empty = true) (h_cl2 : PySem.W.hasDictIn K PC = true) (h_cl3 : PySem.W.plainOver K PC = true) (h_cl4 : PySem.W.findIn K (.ref PC) "__setattr__" = some (some (.builtin "object.__setattr__"))) (h_cPlan : PySem.W.nsIn K mainGlobals "Plan" = some (some (.ref PC))) (h_ne : PySem.W.findIn K (.ref PC) "_editions" = some none) : PTx K mg PC :=
  ⟨⟨h_cl1, h_cl2, h_cl3, h_cl4⟩, PySem.W.mg_of X G h_cPlan, h_ne⟩
theorem TstF_of {K : PySem.W.Frag} {CU : Addr} {CE : Addr} {h : Heap} {mg : Str → Option Value} (X : K.In h) (G : h.Ns mainGlobals mg) (h_xEU : PySem.W.exmOne K (.ref CE) (.ref CU) = some false) : TstF K CU CE :=
  ⟨h_xEU⟩
abbrev kws_NN : List (Str × V) := [("needed", .int 1), ("signers", .non)]
theorem Ini_NN {K : PySem.W.Frag} {C D : Addr} {qual : Str} {st : Stmt} {f : Addr} {oc : Value} {od an : Option Addr} {osl : Array (Option Value)} {doc pm cdv ct : Value} {tk0 : Tok}
    (a : PySem.W.findIn K (.ref C) "__init__" = some (some (.ref f))) (i : PySem.W.isFn K (.ref f) = true) (l : K.lookup f = some ⟨oc, od, .func (PySem.W.fnOf "__init__" qual (defArgs st) (defBody st) (defScope st) .none (.ref D) doc pm an cdv ct), osl⟩)
    (c : PySem.W.codeIn K cdv qual = true) (k : PySem.W.keepIn K (.ref f) = true) (d0 : PySem.W.nsIn K D "needed" = some (some (.int 1 tk0))) (d1 : PySem.W.nsIn K D "signers" = some (some .none)) : IniK K C qual st kws_NN :=
  IniK.of a i l c k (.inr ⟨D, rfl, fun q hq => by
    simp only [kws_NN, List.mem_cons, List.not_mem_nil, or_false] at hq
    rcases hq with rfl | rfl
    · exact ⟨(.int 1 tk0), d0, tk0, rfl⟩
    · exact ⟨.none, d1, rfl⟩⟩)
abbrev kws_NK : List (Str × V) := [("age", .non), ("source", .non)]
theorem Ini_NK {K : PySem.W.Frag} {C D : Addr} {qual : Str} {st : Stmt} {f : Addr} {oc : Value} {od an : Option Addr} {osl : Array (Option Value)} {doc pm cdv ct : Value} 
    (a : PySem.W.findIn K (.ref C) "__init__" = some (some (.ref f))) (i : PySem.W.isFn K (.ref f) = true) (l : K.lookup f = some ⟨oc, od, .func (PySem.W.fnOf "__init__" qual (defArgs st) (defBody st) (defScope st) .none (.ref D) doc pm an cdv ct), osl⟩)
    (c : PySem.W.codeIn K cdv qual = true) (k : PySem.W.keepIn K (.ref f) = true) (d0 : PySem.W.nsIn K D "age" = some (some .none)) (d1 : PySem.W.nsIn K D "source" = some (some .none)) : IniK K C qual st kws_NK :=
  IniK.of a i l c k (.inr ⟨D, rfl, fun q hq => by
    simp only [kws_NK, List.mem_cons, List.not_mem_nil, or_false] at hq
    rcases hq with rfl | rfl
    · exact ⟨.none, d0, rfl⟩
    · exact ⟨.none, d1, rfl⟩⟩)
abbrev kws_NA : List (Str × V) := [("life", .int 0)]
theorem Mth_NA {K : PySem.W.Frag} {C D : Addr} {qual : Str} {st : Stmt} {f : Addr} {oc : Value} {od an : Option Addr} {osl : Array (Option Value)} {doc pm cdv ct : Value} {tk0 : Tok}
    (a : PySem.W.findIn K (.ref C) "add_call" = some (some (.ref f))) (i : PySem.W.isFn K (.ref f) = true) (l : K.lookup f = some ⟨oc, od, .func (PySem.W.fnOf "add_call" qual (defArgs st) (defBody st) (defScope st) .none (.ref D) doc pm an cdv ct), osl⟩)
    (c : PySem.W.codeIn K cdv qual = true) (k : PySem.W.keepIn K (.ref f) = true) (d0 : PySem.W.nsIn K D "life" = some (some (.int 0 tk0))) : MthK K C "add_call" qual st kws_NA :=
  MthK.of a i l c k (.inr ⟨D, rfl, fun q hq => by
    simp only [kws_NA, List.mem_cons, List.not_mem_nil, or_false] at hq
    rcases hq with rfl
    · exact ⟨(.int 0 tk0), d0, tk0, rfl⟩⟩)
def FinT : Prop := ∀ {P : Program} {w : World} {K : PySem.W.Frag} {mg : Str → Option Value} {fa C KC FC RC PC CI CU CK CO CA CM CE c0 P0 c1 P1 : Addr} (hfa : mg "law" = some (.ref fa))  {ts : List Addr} (hm0 : P0 ∈ ts) (ht0 : PySem.W.codeHdIn K c0 P0 = true) (nT0 : K.lookup P0 = none) (DL0 : DefC K mg "_law_refused_right" s_law_refused_right c0) (hm1 : P1 ∈ ts) (ht1 : PySem.W.codeHdIn K c1 P1 = true) (nT1 : K.lookup P1 = none) (DL1 : DefC K mg "law" s_law c1) (hne : P0 ≠ P1)(TC : K26C.Txt K mg) (J : K26C.CTx K mg C) (TK : K26F.Txt K mg KC) (TF : K26F.FTx K mg FC) (T4 : K26F.TxM K mg) (RT : K26R.Txt K mg RC) (TP : TxP K mg) (PT : PTx K mg PC) (W9 : TstF K CU CE) (m1 : PySem.W.makesIn K C = true) (m2 : PySem.W.keepIn K (.ref C) = true) (m3 : PySem.W.makesIn K KC = true) (m4 : PySem.W.keepIn K (.ref KC) = true) (m5 : PySem.W.makesIn K FC = true) (m6 : PySem.W.keepIn K (.ref FC) = true) (m7 : PySem.W.makesIn K RC = true) (m8 : PySem.W.keepIn K (.ref RC) = true) (m9 : PySem.W.makesIn K PC = true) (m10 : PySem.W.keepIn K (.ref PC) = true) (XI : K26F.ExnQ K mg "InvalidContents" CI "InvalidContents.__init__" K26C.s_InvalidContents_init "part") (XU : K26F.ExnQ K mg "UnknownName" CU "UnknownName.__init__" K26F.s_UnknownName_init "name") (XK : K26F.ExnQ K mg "InvalidKind" CK "InvalidKind.__init__" K26F.s_InvalidKind_init "value") (XO : K26F.ExnQ K mg "LimitExceeded" CO "LimitExceeded.__init__" K26F.s_LimitExceeded_init "limit") (XA : K26F.ExnQ K mg "InvalidCall" CA "InvalidCall.__init__" K26F.s_InvalidCall_init "value") (XM : K26F.ExnQ K mg "InvalidMoment" CM "InvalidMoment.__init__" K26F.s_InvalidMoment_init "value") (XE : K26F.ExnQ K mg "UnknownEdition" CE "UnknownEdition.__init__" s_UnknownEdition_init "number") (NN : IniK K C "Contents.__init__" K26C.s_Contents_init kws_NN) (NK : IniK K KC "Kind.__init__" K26F.s_Kind_init kws_NK) (NA : MthK K FC "add_call" "Fleet.add_call" K26F.s_Fleet_add_call kws_NA) (d1 : DefK K mg "is_integer" K26C.s_is_integer) (d2 : DefK K mg "is_word" K26C.s_is_word) (d3 : DefK K mg "are_different_keys" K26C.s_are_different_keys) (d4 : DefK K mg "_is_use" K26C.s_is_use) (d5 : DefK K mg "_are_roles" K26C.s_are_roles) (d6 : DefK K mg "_wrong_part" K26C.s_wrong_part) (d7 : DefK K mg "_in_order" K26C.s_in_order) (d8 : PrpK K C "roles" "Contents.roles" K26C.s_Contents_roles) (d9 : DefK K mg "_law_stream" K26C.s_law_stream) (d10 : DefK K mg "_law_draw" K26C.s_law_draw) (d11 : DefK K mg "_law_choose" K26C.s_law_choose) (d12 : DefK K mg "_law_some" K26C.s_law_some) (d13 : DefK K mg "_law_words" K26C.s_law_words) (d14 : DefK K mg "_law_told" K26C.s_law_told) (d15 : DefK K mg "_law_turned" K26C.s_law_turned) (d16 : DefK K mg "_law_next" K26C.s_law_next) (d17 : DefK K mg "_law_tolds" K26C.s_law_tolds) (d18 : DefK K mg "_law_contents" K26C.s_law_contents) (d19 : DefK K mg "_law_vouched" K26C.s_law_vouched) (d20 : DefK K mg "is_integer" K26F.s_is_integer) (d21 : DefK K mg "is_between" K26F.s_is_between) (d22 : DefK K mg "is_word" K26F.s_is_word) (d23 : DefK K mg "_checked_gap" K26F.s_checked_gap) (d24 : DefK K mg "_checked_age" K26F.s_checked_age) (d25 : DefK K mg "_checked_source" K26F.s_checked_source) (d26 : PrpK K KC "gap" "Kind.gap" K26F.s_Kind_gap) (d27 : PrpK K KC "age" "Kind.age" K26F.s_Kind_age) (d28 : PrpK K KC "source" "Kind.source" K26F.s_Kind_source) (d29 : DefK K mg "_copied" K26F.s_copied) (d30 : DefK K mg "_chain_to" K26F.s_chain_to) (d31 : MetK K FC "__init__" "Fleet.__init__" K26F.s_Fleet_init) (d32 : MetK K FC "__setitem__" "Fleet.__setitem__" K26F.s_Fleet_setitem) (d33 : MetK K FC "_check" "Fleet._check" K26F.s_Fleet_check) (d34 : MetK K FC "chain" "Fleet.chain" K26F.s_Fleet_chain) (d35 : MetK K FC "lateness" "Fleet.lateness" K26F.s_Fleet_lateness) (d36 : MetK K FC "calls" "Fleet.calls" K26F.s_Fleet_calls) (d37 : MetK K FC "__getitem__" "Fleet.__getitem__" K26F.s_Fleet_getitem) (d38 : DefK K mg "is_integer" K26R.s_is_integer) (d39 : DefK K mg "is_bounded" K26R.s_is_bounded) (d40 : MetK K RC "__init__" "Range.__init__" K26R.s_Range_init) (d41 : PrpK K RC "last" "Range.last" K26R.s_Range_last) (d42 : DefK K mg "is_moment" s_is_moment) (d43 : DefK K mg "is_index" s_is_index) (d44 : DefK K mg "is_tuple_of" s_is_tuple_of) (d45 : DefK K mg "_is_edition" s_is_edition) (d46 : DefK K mg "_first_wrong" s_first_wrong) (d47 : MetK K PC "__init__" "Plan.__init__" s_Plan_init) (d48 : MetK K PC "__len__" "Plan.__len__" s_Plan_len) (d49 : MetK K PC "_check" "Plan._check" s_Plan_check) (d50 : MetK K PC "moment_of" "Plan.moment_of" s_Plan_moment_of) (d51 : MetK K PC "contents_of" "Plan.contents_of" s_Plan_contents_of) (d52 : MetK K PC "moments" "Plan.moments" s_Plan_moments) (d53 : DefK K mg "span" s_span) (d54 : DefK K mg "held_span" s_held_span) (d55 : DefK K mg "check_roles" s_check_roles) (d56 : DefK K mg "last_jump" s_last_jump) (d57 : DefK K mg "jump_pairs" s_jump_pairs) (d58 : DefK K mg "jumps" s_jumps) (d59 : DefK K mg "jump_run" s_jump_run) (d60 : DefK K mg "_last_reading" s_last_reading) (d61 : DefK K mg "source_number" s_source_number) (d62 : DefK K mg "source_machines" s_source_machines) (d63 : DefK K mg "holding_machines" s_holding_machines) (d64 : DefK K mg "_law_kinds" s_law_kinds) (d65 : DefK K mg "_law_calls" s_law_calls) (d66 : DefK K mg "_law_moments" s_law_moments) (d67 : DefK K mg "_law_plan" s_law_plan) (d68 : DefK K mg "_law_fleet" s_law_fleet) (d69 : DefK K mg "_law_late" s_law_late) (d70 : DefK K mg "_law_large" s_law_large) (d71 : DefK K mg "_law_pairs" s_law_pairs) (d72 : DefK K mg "_law_jumps" s_law_jumps) (d73 : DefK K mg "_law_current" s_law_current) (d74 : DefK K mg "_law_holds" s_law_holds) (d75 : DefK K mg "_law_reading" s_law_reading) (d76 : DefK K mg "_law_copy" s_law_copy) (d77 : DefK K mg "_law_machine" s_law_machine) (d78 : DefK K mg "_law_played" s_law_played) (d79 : DefK K mg "_law_is_shown" s_law_is_shown) (d80 : DefK K mg "_law_failed" s_law_failed), ∃ (Ts : List (Addr × Addr)) (fd : FuncData) (sp : Sp), (∀ q ∈ Ts, q.2 ∈ ts ∧ PySem.W.codeHdIn K q.1 q.2 = true ∧ K.lookup q.2 = none) ∧ (∀ (s : Shared) (v : Value), BindsTo s fd ⟨[v], []⟩ [("script", v)]) ∧
      (∀ (H : Hp) (a : Addr) (ns : List Int), ns.length ≤ 63 → (∀ q ∈ Ts, H q.2 = some (.tbl #[])) → SqL K H a (ns.map V.int) → sp [.ref a] H (fun v _ => v = .bl true) fun _ _ _ => False) ∧
      ∀ base : Heap, K.In base → base.Ns mainGlobals mg → (∀ q ∈ Ts, LamX.TabB base mg q.1 q.2) → FnG P w K mg base CX0 26 fa fd ["script"] sp
theorem walk {l : PySem.W.OpenLaw} {q : Program} {loose : List Str} {XP : (Str → Option Value) → Heap → Prop} {YP : World → Heap → Prop} {d : DefRec} {K : Params → PySem.W.Frag} {ts : List Addr} (hn : l.most = some 63) (hdf : d.params.defaults = [])
    (hY : ∀ (w : World) (h : Heap), YP w h → (K w.params).In h) (hTs : ∀ (w : World) (h : Heap), YP w h → ∀ T ∈ ts, h.get? T = some (PySem.W.tabObj #[]))
    (F : ∀ (w : World) (mg : Str → Option Value) (fa : Addr) (h : Heap), (K w.params).In h → h.Ns mainGlobals mg → mg d.name = some (.ref fa) → XP mg h →
      ∃ (Ts : List (Addr × Addr)) (fd : FuncData) (sp : Sp), (∀ q ∈ Ts, q.2 ∈ ts ∧ PySem.W.codeHdIn (K w.params) q.1 q.2 = true ∧ (K w.params).lookup q.2 = none) ∧ (∀ (s : Shared) (u : Value), BindsTo s fd ⟨[u], []⟩ [("script", u)]) ∧
        (∀ (H : Hp) (a : Addr) (ns : List Int), ns.length ≤ 63 → (∀ q ∈ Ts, H q.2 = some (.tbl #[])) → SqL (K w.params) H a (ns.map V.int) → sp [.ref a] H (fun v _ => v = .bl true) fun _ _ _ => False) ∧
        ∀ base : Heap, (K w.params).In base → base.Ns mainGlobals mg → (∀ q ∈ Ts, LamX.TabB base mg q.1 q.2) → FnG l.prog w (K w.params) mg base CX0 26 fa fd ["script"] sp) :
    PySem.W.WalkO q loose XP YP l.row.toRowW d [] (fun f vs => PySem.call f vs) :=
  walk_ofTL (n := 63) (k := 26) (x := "script") (CX := fun _ => CX0) hn (by decide) hdf ⟨rfl, by decide, by decide⟩ hY hTs F fun _ _ _ _ _ z => z
end K26
section HeadF
open PySem PySem.W PyProof.Rows
local macro_rules | `(tactic| walk_at "dk") => `(tactic| (refine' Jg.DefK.of (by assumption) (by assumption) ?a ?l ?c ?k; (case a => k_is); (case l => k_is); (case c => k_is); (case k => k_is)))
local macro_rules | `(tactic| walk_at "mk") => `(tactic| (refine' Jg.MetK.of ?a ?i ?l ?c ?k; (case a => k_is); (case i => k_is); (case l => k_is); (case c => k_is); (case k => k_is)))
local macro_rules | `(tactic| walk_at "pk") => `(tactic| (refine' Jg.PrpK.of ?a ?g ?tk ?rc ?l ?c ?k; (case a => k_is); (case g => k_is); (case tk => k_is); (case rc => k_is); (case l => k_is); (case c => k_is); (case k => k_is)))
local macro_rules | `(tactic| walk_at "ck") => `(tactic| (refine' Jg.CmtK.of ?rd ?ga ?a ?rc ?fi ?l ?c ?k; (case rd => k_is); (case ga => k_is); (case a => k_is); (case rc => k_is); (case fi => k_is); (case l => k_is); (case c => k_is); (case k => k_is)))
local macro_rules | `(tactic| o_head ($_f:ident $K $as $e)) => `(tactic| o_head (Jg.pHook $K $as $e () ()))
local macro_rules | `(tactic| o_head ($_f:ident $K $as $e $ts)) => `(tactic| o_head (Jg.pmHook $K $as $e $ts ()))
local macro_rules | `(tactic| refine $f:ident ($n:ident := $q) $args*) => `(tactic| (have fin9 : K26.FinT := (by assumption); refine ($f:ident ($n:ident := $q) $args*)))
def PySem.W.Fast.tw2057161350433187935 : Unit := ()
def PySem.W.Fast.tw10953044887242874441 : Unit := ()
def PySem.W.Fast.tw9232667202646268039 : Unit := ()
def PySem.W.Fast.tw11180252693515774292 : Unit := ()
def PySem.W.Fast.tw6612423413017270812 : Unit := ()
def PySem.W.Fast.tw14120680385193274545 : Unit := ()
def PySem.W.Fast.tw501109871432412219 : Unit := ()
def PySem.W.Fast.tw16247050215175114859 : Unit := ()
def PySem.W.Fast.tw5397913650061069430 : Unit := ()
def PySem.W.Fast.tw1597316509385822645 : Unit := ()
def PySem.W.Fast.tw10887681587892383953 : Unit := ()
def PySem.W.Fast.tw655633931458521803 : Unit := ()
def PySem.W.Fast.tw8207888390576416920 : Unit := ()
def PySem.W.Fast.tw823252679480014044 : Unit := ()
def PySem.W.Fast.tw15801910147675957776 : Unit := ()
def PySem.W.Fast.tw6067966473097258701 : Unit := ()
def PySem.W.Fast.tw2002734835124067568 : Unit := ()
def PySem.W.Fast.tw17338462698944594024 : Unit := ()
def PySem.W.Fast.tw7150310622867383480 : Unit := ()
def PySem.W.Fast.tw4899379676740646685 : Unit := ()
def PySem.W.Fast.tw5629711866772904594 : Unit := ()
def PySem.W.Fast.tw5344820845304914008 : Unit := ()
def PySem.W.Fast.tw12050236607738754631 : Unit := ()
def PySem.W.Fast.tw4360280191869457213 : Unit := ()
def PySem.W.Fast.tw13286557499379441373 : Unit := ()
def PySem.W.Fast.tw17814408383981506553 : Unit := ()
def PySem.W.Fast.tw9443684882263116024 : Unit := ()
def PySem.W.Fast.tw12467220393914811670 : Unit := ()
def PySem.W.Fast.tw14928562168026025853 : Unit := ()
def PySem.W.Fast.tw51372036466415693 : Unit := ()
def PySem.W.Fast.tw13253117098245394484 : Unit := ()
def PySem.W.Fast.tw16543458053584064085 : Unit := ()
def PySem.W.Fast.tw2384919455408420109 : Unit := ()
def PySem.W.Fast.tw6792368191400856758 : Unit := ()
set_option maxRecDepth 100000 in
set_option maxHeartbeats 0 in
theorem K26.head0 (FIN : K26.FinT) : PySem.Challenge.rw_gaplesskeys_k26_runs_that_jump.Holds := by
  w_on; o_law; k_head; (case hw => w_witness2)
  k_fill
  refine K26.walk (l := PySem.Challenge.rw_gaplesskeys_k26_runs_that_jump) rfl rfl (fun w h Y => Jg.pm_in_of Y) (fun w h Y => Jg.pm_tabs_of Y) ?F
  case F =>
    intro w mg fa h KX G hmg XP
    have FIN : K26.FinT := by assumption
    refine' FIN hmg ?hm0 ?ht0 ?nT0 ?DL0 ?hm1 ?ht1 ?nT1 ?DL1 ?hne ?TC ?J ?TK ?TF ?T4 ?RT ?TP ?PT ?W9 ?m1 ?m2 ?m3 ?m4 ?m5 ?m6 ?m7 ?m8 ?m9 ?m10 ?XI ?XU ?XK ?XO ?XA ?XM ?XE ?NN ?NK ?NA ?d1 ?d2 ?d3 ?d4 ?d5 ?d6 ?d7 ?d8 ?d9 ?d10 ?d11 ?d12 ?d13 ?d14 ?d15 ?d16 ?d17 ?d18 ?d19 ?d20 ?d21 ?d22 ?d23 ?d24 ?d25 ?d26 ?d27 ?d28 ?d29 ?d30 ?d31 ?d32 ?d33 ?d34 ?d35 ?d36 ?d37 ?d38 ?d39 ?d40 ?d41 ?d42 ?d43 ?d44 ?d45 ?d46 ?d47 ?d48 ?d49 ?d50 ?d51 ?d52 ?d53 ?d54 ?d55 ?d56 ?d57 ?d58 ?d59 ?d60 ?d61 ?d62 ?d63 ?d64 ?d65 ?d66 ?d67 ?d68 ?d69 ?d70 ?d71 ?d72 ?d73 ?d74 ?d75 ?d76 ?d77 ?d78 ?d79 ?d80
    case DL0 =>
      refine' Jg.DefC.of KX G ?LL0a ?LL0l ?LL0c ?LL0k
      (case LL0a => k_is); (case LL0l => k_is); (case LL0c => k_is); (case LL0k => k_is)
    (case hm0 => exact List.Mem.head _)
    case DL1 =>
      refine' Jg.DefC.of KX G ?LL1a ?LL1l ?LL1c ?LL1k
      (case LL1a => k_is); (case LL1l => k_is); (case LL1c => k_is); (case LL1k => k_is)
    (case hm1 => exact List.Mem.tail _ (List.Mem.head _))
    (case hne => decide)
    (case ht0 => kernel_rfl)
    (case nT0 => kernel_rfl)
    (case ht1 => kernel_rfl)
    (case nT1 => kernel_rfl)
    case TC =>
      refine' K26.K26C_Txt_of KX G ?TCb_isinstance ?TCb_int ?TCb_bool ?TCb_str ?TCb_list ?TCb_tuple ?TCb_dict ?TCb_len ?TCb_all ?TCb_any ?TCb_set ?TCb_sorted ?TCb_max ?TCb_min ?TCb_range ?TCb_repr ?TCb_sum ?TCg_MOST_ROLES ?TCg_MOST_ACCEPTED ?TCg_MOST_VOUCHERS ?TCg_MOST_NEEDED
      (case TCg_MOST_ROLES => k_is)
      (case TCg_MOST_ACCEPTED => k_is)
      (case TCg_MOST_VOUCHERS => k_is)
      (case TCg_MOST_NEEDED => k_is)
      all_goals (first | k_is | kit_is | rfl)
    case J =>
      refine' K26.K26C_CTx_of KX G ?Jcl1 ?Jcl2 ?Jcl3 ?Jcl4 ?JcC ?Jcls_ ?Jcgt ?Jctk ?Jmro ?Jne ?JkCC ?JkN ?JkI ?JkS ?JkL ?JkT ?JkD ?JoCC ?JoN ?JoI ?JoS ?JoL ?JoT ?JoD ?Jnu ?Jnv ?Jnn ?Jns
      (case JcC => k_is)
      all_goals (first | k_is | kit_is | rfl)
    case TK =>
      refine' K26.K26F_Txt_of KX G ?TKcl1 ?TKcl2 ?TKcl3 ?TKcl4 ?TKng ?TKna ?TKns ?TKcKind ?TKgLONGEST ?TKb_isinstance ?TKb_int ?TKb_bool ?TKb_str ?TKb_tuple ?TKb_len ?TKb_max ?TKb_min ?TKb_range ?TKb_repr ?TKgMOST_KINDS ?TKg_LONGEST_CHAIN ?TKb_any ?TKb_set ?TKb_dict ?TKb_list ?TKb_sorted ?TKcls_ ?TKcgt ?TKctk ?TKmro ?TKne ?TKkCC ?TKkN ?TKkI ?TKkS ?TKkL ?TKkT ?TKkD ?TKoCC ?TKoN ?TKoI ?TKoS ?TKoL ?TKoT ?TKoD
      (case TKcKind => k_is)
      (case TKgLONGEST => first | exact Jg.loose_int XP (List.Mem.head _) | exact Jg.loose_int XP (List.Mem.tail _ (List.Mem.head _)) | exact Jg.loose_int XP (List.Mem.tail _ (List.Mem.tail _ (List.Mem.head _))))
      (case TKgMOST_KINDS => k_is)
      (case TKg_LONGEST_CHAIN => k_is)
      all_goals (first | k_is | kit_is | rfl)
    case TF =>
      refine' K26.K26F_FTx_of KX G ?TFcl1 ?TFcl2 ?TFcl3 ?TFcl4 ?TFnk ?TFnc ?TFcFleet ?TFns ?TFfn1 ?TFfn2
      (case TFcFleet => k_is)
      (case TFfn1 => k_is)
      all_goals (first | k_is | kit_is | rfl)
    case T4 =>
      refine' K26.K26F_TxM_of KX G ?T4gMOST_CALLS ?T4b_zip
      (case T4gMOST_CALLS => k_is)
      all_goals (first | k_is | kit_is | rfl)
    case RT =>
      refine' K26.K26R_Txt_of KX G ?RTcl1 ?RTcl2 ?RTcl3 ?RTcl4 ?RTnl ?RTnh ?RTsf ?RTcRange ?RTgBOUND ?RTb_isinstance ?RTb_int ?RTb_bool ?RTb_str ?RTb_len ?RTb_max ?RTb_min ?RTb_range ?RTb_repr ?RTb_sorted ?RTb_set ?RTcls_ ?RTcgt ?RTctk ?RTmro ?RTkCC ?RTkN ?RTkB ?RTkI ?RTkS ?RTkL ?RTkT ?RTkD ?RTkCi ?RToCC
      (case RTcRange => k_is)
      (case RTgBOUND => first | exact Jg.loose_int XP (List.Mem.head _) | exact Jg.loose_int XP (List.Mem.tail _ (List.Mem.head _)) | exact Jg.loose_int XP (List.Mem.tail _ (List.Mem.tail _ (List.Mem.head _))))
      all_goals (first | k_is | kit_is | rfl)
    case TP =>
      refine' K26.TxP_of KX G ?TPg_LAST_MOMENT ?TPgMOST_EDITIONS ?TPb_isinstance ?TPb_tuple ?TPb_list ?TPb_len ?TPb_enumerate ?TPb_range ?TPb_zip ?TPb_max ?TPb_min ?TPb_repr
      (case TPg_LAST_MOMENT => first | exact Jg.loose_int XP (List.Mem.head _) | exact Jg.loose_int XP (List.Mem.tail _ (List.Mem.head _)) | exact Jg.loose_int XP (List.Mem.tail _ (List.Mem.tail _ (List.Mem.head _))))
      (case TPgMOST_EDITIONS => k_is)
      all_goals (first | k_is | kit_is | rfl)
    case PT =>
      refine' K26.PTx_of KX G ?PTcl1 ?PTcl2 ?PTcl3 ?PTcl4 ?PTcPlan ?PTne
      (case PTcPlan => k_is)
      all_goals (first | k_is | kit_is | rfl)
    (case m1 => k_is); (case m2 => k_is)
    (case m3 => k_is); (case m4 => k_is)
    (case m5 => k_is); (case m6 => k_is)
    (case m7 => k_is); (case m8 => k_is)
    (case m9 => k_is); (case m10 => k_is)
    case XI =>
      refine' K26.ExnF_of KX G PySem.F.excBase_ValueError PySem.F.store_ValueError ?XXIaI ?XXIxI ?XXIxO ?XXIsa ?XXIexC ?XXItyC ?XXIkC ?XXIga ?XXIgg ?XXIhdC ?XXIha ?XXIhn ?XXIht ?XXIhm ?XXIno ?XXIiI ?XXItI ?XXIl ?XXIc ?XXIk ?XXIsC
      (case XXIaI => k_is); (case XXIxI => first | decide +kernel | rfl); (case XXIxO => first | decide +kernel | rfl); (case XXIsa => k_is); (case XXIexC => k_is); (case XXItyC => k_is); (case XXIkC => k_is); (case XXIga => k_is); (case XXIgg => k_is); (case XXIhdC => k_is); (case XXIha => k_is); (case XXIhn => k_is); (case XXIht => k_is); (case XXIhm => k_is)
      (case XXIno => k_is); (case XXIiI => k_is); (case XXItI => k_is); (case XXIl => k_is); (case XXIc => k_is); (case XXIk => k_is); (case XXIsC => first | rfl | k_is)
    case XU =>
      refine' K26.ExnF_of KX G PySem.F.excBase_LookupError PySem.F.store_LookupError ?XXUaI ?XXUxI ?XXUxO ?XXUsa ?XXUexC ?XXUtyC ?XXUkC ?XXUga ?XXUgg ?XXUhdC ?XXUha ?XXUhn ?XXUht ?XXUhm ?XXUno ?XXUiI ?XXUtI ?XXUl ?XXUc ?XXUk ?XXUsC
      (case XXUaI => k_is); (case XXUxI => first | decide +kernel | rfl); (case XXUxO => first | decide +kernel | rfl); (case XXUsa => k_is); (case XXUexC => k_is); (case XXUtyC => k_is); (case XXUkC => k_is); (case XXUga => k_is); (case XXUgg => k_is); (case XXUhdC => k_is); (case XXUha => k_is); (case XXUhn => k_is); (case XXUht => k_is); (case XXUhm => k_is)
      (case XXUno => k_is); (case XXUiI => k_is); (case XXUtI => k_is); (case XXUl => k_is); (case XXUc => k_is); (case XXUk => k_is); (case XXUsC => first | rfl | k_is)
    case XK =>
      refine' K26.ExnF_of KX G PySem.F.excBase_ValueError PySem.F.store_ValueError ?XXKaI ?XXKxI ?XXKxO ?XXKsa ?XXKexC ?XXKtyC ?XXKkC ?XXKga ?XXKgg ?XXKhdC ?XXKha ?XXKhn ?XXKht ?XXKhm ?XXKno ?XXKiI ?XXKtI ?XXKl ?XXKc ?XXKk ?XXKsC
      (case XXKaI => k_is); (case XXKxI => first | decide +kernel | rfl); (case XXKxO => first | decide +kernel | rfl); (case XXKsa => k_is); (case XXKexC => k_is); (case XXKtyC => k_is); (case XXKkC => k_is); (case XXKga => k_is); (case XXKgg => k_is); (case XXKhdC => k_is); (case XXKha => k_is); (case XXKhn => k_is); (case XXKht => k_is); (case XXKhm => k_is)
      (case XXKno => k_is); (case XXKiI => k_is); (case XXKtI => k_is); (case XXKl => k_is); (case XXKc => k_is); (case XXKk => k_is); (case XXKsC => first | rfl | k_is)
    case XO =>
      refine' K26.ExnF_of KX G PySem.F.excBase_OverflowError PySem.F.store_OverflowError ?XXOaI ?XXOxI ?XXOxO ?XXOsa ?XXOexC ?XXOtyC ?XXOkC ?XXOga ?XXOgg ?XXOhdC ?XXOha ?XXOhn ?XXOht ?XXOhm ?XXOno ?XXOiI ?XXOtI ?XXOl ?XXOc ?XXOk ?XXOsC
      (case XXOaI => k_is); (case XXOxI => first | decide +kernel | rfl); (case XXOxO => first | decide +kernel | rfl); (case XXOsa => k_is); (case XXOexC => k_is); (case XXOtyC => k_is); (case XXOkC => k_is); (case XXOga => k_is); (case XXOgg => k_is); (case XXOhdC => k_is); (case XXOha => k_is); (case XXOhn => k_is); (case XXOht => k_is); (case XXOhm => k_is)
      (case XXOno => k_is); (case XXOiI => k_is); (case XXOtI => k_is); (case XXOl => k_is); (case XXOc => k_is); (case XXOk => k_is); (case XXOsC => first | rfl | k_is)
    case XA =>
      refine' K26.ExnF_of KX G PySem.F.excBase_ValueError PySem.F.store_ValueError ?XXAaI ?XXAxI ?XXAxO ?XXAsa ?XXAexC ?XXAtyC ?XXAkC ?XXAga ?XXAgg ?XXAhdC ?XXAha ?XXAhn ?XXAht ?XXAhm ?XXAno ?XXAiI ?XXAtI ?XXAl ?XXAc ?XXAk ?XXAsC
      (case XXAaI => k_is); (case XXAxI => first | decide +kernel | rfl); (case XXAxO => first | decide +kernel | rfl); (case XXAsa => k_is); (case XXAexC => k_is); (case XXAtyC => k_is); (case XXAkC => k_is); (case XXAga => k_is); (case XXAgg => k_is); (case XXAhdC => k_is); (case XXAha => k_is); (case XXAhn => k_is); (case XXAht => k_is); (case XXAhm => k_is)
      (case XXAno => k_is); (case XXAiI => k_is); (case XXAtI => k_is); (case XXAl => k_is); (case XXAc => k_is); (case XXAk => k_is); (case XXAsC => first | rfl | k_is)
    case XM =>
      refine' K26.ExnF_of KX G PySem.F.excBase_ValueError PySem.F.store_ValueError ?XXMaI ?XXMxI ?XXMxO ?XXMsa ?XXMexC ?XXMtyC ?XXMkC ?XXMga ?XXMgg ?XXMhdC ?XXMha ?XXMhn ?XXMht ?XXMhm ?XXMno ?XXMiI ?XXMtI ?XXMl ?XXMc ?XXMk ?XXMsC
      (case XXMaI => k_is); (case XXMxI => first | decide +kernel | rfl); (case XXMxO => first | decide +kernel | rfl); (case XXMsa => k_is); (case XXMexC => k_is); (case XXMtyC => k_is); (case XXMkC => k_is); (case XXMga => k_is); (case XXMgg => k_is); (case XXMhdC => k_is); (case XXMha => k_is); (case XXMhn => k_is); (case XXMht => k_is); (case XXMhm => k_is)
      (case XXMno => k_is); (case XXMiI => k_is); (case XXMtI => k_is); (case XXMl => k_is); (case XXMc => k_is); (case XXMk => k_is); (case XXMsC => first | rfl | k_is)
    case XE =>
      refine' K26.ExnF_of KX G PySem.F.excBase_LookupError PySem.F.store_LookupError ?XXEaI ?XXExI ?XXExO ?XXEsa ?XXEexC ?XXEtyC ?XXEkC ?XXEga ?XXEgg ?XXEhdC ?XXEha ?XXEhn ?XXEht ?XXEhm ?XXEno ?XXEiI ?XXEtI ?XXEl ?XXEc ?XXEk ?XXEsC
      (case XXEaI => k_is); (case XXExI => first | decide +kernel | rfl); (case XXExO => first | decide +kernel | rfl); (case XXEsa => k_is); (case XXEexC => k_is); (case XXEtyC => k_is); (case XXEkC => k_is); (case XXEga => k_is); (case XXEgg => k_is); (case XXEhdC => k_is); (case XXEha => k_is); (case XXEhn => k_is); (case XXEht => k_is); (case XXEhm => k_is)
      (case XXEno => k_is); (case XXEiI => k_is); (case XXEtI => k_is); (case XXEl => k_is); (case XXEc => k_is); (case XXEk => k_is); (case XXEsC => first | rfl | k_is)
    case NN =>
      refine' K26.Ini_NN ?NNNa ?NNNi ?NNNl ?NNNc ?NNNk ?NNNd0 ?NNNd1
      (case NNNa => k_is); (case NNNi => k_is); (case NNNl => k_is); (case NNNc => k_is); (case NNNk => k_is); (case NNNd0 => k_is); (case NNNd1 => k_is)
    case NK =>
      refine' K26.Ini_NK ?NNKa ?NNKi ?NNKl ?NNKc ?NNKk ?NNKd0 ?NNKd1
      (case NNKa => k_is); (case NNKi => k_is); (case NNKl => k_is); (case NNKc => k_is); (case NNKk => k_is); (case NNKd0 => k_is); (case NNKd1 => k_is)
    case NA =>
      refine' K26.Mth_NA ?NNAa ?NNAi ?NNAl ?NNAc ?NNAk ?NNAd0
      (case NNAa => k_is); (case NNAi => k_is); (case NNAl => k_is); (case NNAc => k_is); (case NNAk => k_is); (case NNAd0 => k_is)
    case W9 =>
      refine' K26.TstF_of KX G ?W9xEU
      all_goals (first | k_is | kit_is | rfl)
    (case d1 => walk_at "dk")
    (case d2 => walk_at "dk")
    (case d3 => walk_at "dk")
    (case d4 => walk_at "dk")
    (case d5 => walk_at "dk")
    (case d6 => walk_at "dk")
    (case d7 => walk_at "dk")
    (case d8 => walk_at "pk")
    (case d9 => walk_at "dk")
    (case d10 => walk_at "dk")
    (case d11 => walk_at "dk")
    (case d12 => walk_at "dk")
    (case d13 => walk_at "dk")
    (case d14 => walk_at "dk")
    (case d15 => walk_at "dk")
    (case d16 => walk_at "dk")
    (case d17 => walk_at "dk")
    (case d18 => walk_at "dk")
    (case d19 => walk_at "dk")
    (case d20 => walk_at "dk")
    (case d21 => walk_at "dk")
    (case d22 => walk_at "dk")
    (case d23 => walk_at "dk")
    (case d24 => walk_at "dk")
    (case d25 => walk_at "dk")
    (case d26 => walk_at "pk")
    (case d27 => walk_at "pk")
    (case d28 => walk_at "pk")
    (case d29 => walk_at "dk")
    (case d30 => walk_at "dk")
    (case d31 => walk_at "mk")
    (case d32 => walk_at "mk")
    (case d33 => walk_at "mk")
    (case d34 => walk_at "mk")
    (case d35 => walk_at "mk")
    (case d36 => walk_at "mk")
    (case d37 => walk_at "mk")
    (case d38 => walk_at "dk")
    (case d39 => walk_at "dk")
    (case d40 => walk_at "mk")
    (case d41 => walk_at "pk")
    (case d42 => walk_at "dk")
    (case d43 => walk_at "dk")
    (case d44 => walk_at "dk")
    (case d45 => walk_at "dk")
    (case d46 => walk_at "dk")
    (case d47 => walk_at "mk")
    (case d48 => walk_at "mk")
    (case d49 => walk_at "mk")
    (case d50 => walk_at "mk")
    (case d51 => walk_at "mk")
    (case d52 => walk_at "mk")
    (case d53 => walk_at "dk")
    (case d54 => walk_at "dk")
    (case d55 => walk_at "dk")
    (case d56 => walk_at "dk")
    (case d57 => walk_at "dk")
    (case d58 => walk_at "dk")
    (case d59 => walk_at "dk")
    (case d60 => walk_at "dk")
    (case d61 => walk_at "dk")
    (case d62 => walk_at "dk")
    (case d63 => walk_at "dk")
    (case d64 => walk_at "dk")
    (case d65 => walk_at "dk")
    (case d66 => walk_at "dk")
    (case d67 => walk_at "dk")
    (case d68 => walk_at "dk")
    (case d69 => walk_at "dk")
    (case d70 => walk_at "dk")
    (case d71 => walk_at "dk")
    (case d72 => walk_at "dk")
    (case d73 => walk_at "dk")
    (case d74 => walk_at "dk")
    (case d75 => walk_at "dk")
    (case d76 => walk_at "dk")
    (case d77 => walk_at "dk")
    (case d78 => walk_at "dk")
    (case d79 => walk_at "dk")
    (case d80 => walk_at "dk")
end HeadF
set_option Elab.async false
set_option linter.all false
set_option maxRecDepth 100000
set_option maxHeartbeats 4000000
namespace Jg
open PySem PySem.Spec PyProof.Rows L2
theorem turn_long {P : Program} {w : World} {K : PySem.W.Frag} {tg : Expr} (it : Addr) (lo : Int) (n : Nat) : Turn P w K tg (Itr lo n) [it] it (fun i h => IsLongIter h it (lo + (i : Nat) * 1) ((n : Int) - (i : Nat)) 1) where
  mem := by simp
  obj := fun i h st b hb => by
    have e : b = it := by simpa using hb
    subst e
    exact ⟨_, st, fun v z => by
      have z' : Data.fields _ = Data.cell v := z
      cases z'⟩
  keep := fun i h h' st k => k it (by simp) _ st
  item := by
    intro X hP hw hK hc i pins s σ H E I hf st hg
    subst hP hw hK
    obtain ⟨f0, f1, f2, f3, f4, f5⟩ := hf it (by simp)
    have W := Walks.longrange (prog := X.prog) (w := X.w) (I.ok.hd hc) it lo 1 n
    refine W.item i s _ _ hg st fun v h' tk hv st' kk => ?_
    obtain ⟨t, rfl⟩ := hv
    have I1 : Inv X pins σ H { s with heap := h', toks := tk } := I.turned (fun b o hb e => kk b o (by simpa using hb) e) f0 f1 f3 f4 f5
    refine ⟨_, rfl, go_of (s := { s with heap := h', toks := tk }) (n := "longrange_iterator") st' rfl rfl (by decide) ⟨.int (lo + i), H, I1, ⟨t, ?_⟩, ⟨rfl, rfl⟩, st', fun b hb => (hf b hb).1⟩⟩
    rw [Int.mul_one]
  done := by
    intro X hP hw hK hc i pins s σ H E I hf st hg
    subst hP hw hK
    obtain ⟨f0, f1, f2, f3, f4, f5⟩ := hf it (by simp)
    exact wpAny_pyNext_long_end (I.ok.hd hc) st (by have : n ≤ i := hg; omega) fun h' eb => ⟨rfl, I.turned (t' := s.toks) (fun b o hb e => eb b o hb e) f0 f1 f3 f4 f5⟩
  self := fun _ _ _ _ _ st h => wpAny_pyIter_longiter st h
section
variable {X : Cx} {tg : Expr}
theorem rsize_nat (lo hi : Int) : (((hi - lo).toNat : Nat) : Int) = Builtin.Range.rangeSize lo hi 1 := by
  rw [rangeSize_one]; split <;> omega
theorem rangeW_it {pins : List (Addr × Obj)} {σ : L2.St} {H : Hp} {s : Shared} {R : It → Hp → Prop} {E : Value → Shared → Prop} {lo hi : Int} {t u v : Tok} {tk : Nat} (I : Inv X pins σ H s)
    (q : R (Itr lo (hi - lo).toNat) H) : wpAny (model X.prog X.w) X.A (pyIter (.ref s.heap.objs.size)) (PIE X pins σ tg R) E { s with heap := s.heap.push { cls := .type "range", data := .fields #[.int lo t, .int hi u, .int 1 v] }, toks := tk } := by
  have I1 : Inv X pins σ H { s with heap := s.heap.push { cls := .type "range", data := .fields #[.int lo t, .int hi u, .int 1 v] }, toks := tk } := I.kept fun b o e => Heap.get?_push_of_some _ e
  cases hs : Builtin.Range.small lo hi 1 with
  | true =>
    refine wpAny_pyIter_range (IsRange.new ..) hs ?_
    refine ⟨(s.heap.push { cls := .type "range", data := .fields #[.int lo t, .int hi u, .int 1 v] }).objs.size, [(s.heap.push { cls := .type "range", data := .fields #[.int lo t, .int hi u, .int 1 v] }).objs.size], _, _, H, rfl,
      I1.kept (t' := tk) fun b o e => Heap.get?_push_of_some _ e, turn_range _ lo (hi - lo).toNat, ?_, fun b hb => ?_, q⟩
    · have e1 : lo + ((0 : Nat) : Int) * 1 = lo := by simp
      have e2 : (((hi - lo).toNat : Nat) : Int) - ((0 : Nat) : Int) = Builtin.Range.rangeSize lo hi 1 := by rw [rsize_nat]; simp
      show IsRangeIter _ _ (lo + ((0 : Nat) : Int) * 1) ((((hi - lo).toNat : Nat) : Int) - ((0 : Nat) : Int)) 1
      rw [e1, e2]
      exact Heap.get?_push_size _ rfl
    · have e : b = (s.heap.push { cls := .type "range", data := .fields #[.int lo t, .int hi u, .int 1 v] }).objs.size := by simpa using hb
      subst e
      exact I1.fpOk (Nat.le_refl _) (I1.hok.fresh (Nat.le_refl _))
  | false =>
    refine wpAny_pyIter_longrange (IsRange.new ..) hs ?_
    refine ⟨(s.heap.push { cls := .type "range", data := .fields #[.int lo t, .int hi u, .int 1 v] }).objs.size, [(s.heap.push { cls := .type "range", data := .fields #[.int lo t, .int hi u, .int 1 v] }).objs.size], _, _, H, rfl,
      I1.kept (t' := tk) fun b o e => Heap.get?_push_of_some _ e, turn_long _ lo (hi - lo).toNat, ?_, fun b hb => ?_, q⟩
    · have e1 : lo + ((0 : Nat) : Int) * 1 = lo := by simp
      have e2 : (((hi - lo).toNat : Nat) : Int) - ((0 : Nat) : Int) = Builtin.Range.rangeSize lo hi 1 := by rw [rsize_nat]; simp
      show IsLongIter _ _ (lo + ((0 : Nat) : Int) * 1) ((((hi - lo).toNat : Nat) : Int) - ((0 : Nat) : Int)) 1
      rw [e1, e2]
      exact Heap.get?_push_size _ rfl
    · have e : b = (s.heap.push { cls := .type "range", data := .fields #[.int lo t, .int hi u, .int 1 v] }).objs.size := by simpa using hb
      subst e
      exact I1.fpOk (Nat.le_refl _) (I1.hok.fresh (Nat.le_refl _))
def iRng2W (ta : TA) : TI := fun σ H R => ta σ H fun vs H1 => ∃ i j : Int, vs = [.int i, .int j] ∧ R (Itr i (j - i).toNat) H1
theorem pi_range2W {a b : Expr} {ta : TA} {p pos : Pos} (hg : Gl X "range") (hm : X.mg "range" = none) (ha : PA X [a, b] ta) (hs : starEach [a, b] X.env = [(false, eval a X.env), (false, eval b X.env)] := by rfl) (hs2 : starEach [b] X.env = [(false, eval b X.env)] := by rfl) :
    PI X tg (.Call (.Name "range" p) [a, b] [] pos) (iRng2W ta) := by
  refine ⟨fun pins s σ H R I h => ?_⟩
  refine Call_ (ld_blt I hg hm boot_range (PyProof.Rows.callWith_type1 (thn (ha.run pos pins s σ H _ I h) fun us s1 ⟨vs, H1, I1, r1, q1⟩ => ?_) (by rw [hs, hs2]) (by rw [hs2]; rfl)))
  obtain ⟨i, j, e, q⟩ := q1
  subst e
  cases r1 with
  | cons r rr =>
    cases rr with
    | cons r' rr =>
      cases rr
      obtain ⟨t, rfl⟩ := r
      obtain ⟨t', rfl⟩ := r'
      exact call_range_2 (rangeW_it I1 q)
end
end Jg
namespace Jg
open PySem PySem.Spec PyProof.Rows L2
section
variable {X : Cx} {CX : CXT} {k : Nat} {f : Addr} {fd : FuncData} {ps : List Str} {sp : Sp} {dvs : List V} {ds : List Value} {E : XK} {x : Str} {p pos : Pos} {e : Expr} {es : List Expr} {t : TA}
theorem run_fnG {pins : List (Addr × Obj)} {σ : L2.St} {H : Hp} {s : Shared} {Q : VK} {us : List Value} {vs : List V} (F : FnG X.prog X.w X.K X.mg X.base CX k f fd ps sp) (g : X.A.guards = some []) (hr : Room k X.A) (hb : Binds X.K fd ps ds) (hd : Vals dvs ds) (hx : Passes CX X E)
    (I : Inv X pins σ H s) (r : Vals vs us) (h : sp (vs ++ dvs) H Q E) : wpAny (model X.prog X.w) X.A (call (.ref f) us) (EP X pins σ Q) X.xe s := by
  have both := r.append hd
  have hl : (us ++ ds).length = ps.length := both.length.symm.trans (F.len _ _ _ _ h)
  have go := F.run X.A g X.stack s H ⟨us, []⟩ (us ++ ds) (vs ++ dvs) Q E hr I.env0 (hb s us I.kIn hl) both h
  refine wpAny_call (codeAny_mono go fun r s' hq => ?_)
  match r, hq with
  | .error e, hq => exact hx pins σ H s e s' I hq
  | .ok (.ret u), hq => exact I.after hq
/-- f(e, ..) -/
theorem pe_callG (F : FnG X.prog X.w X.K X.mg X.base CX k f fd ps sp) (g : X.A.guards = some []) (hr : Room k X.A) (hg : Gl X x) (hm : X.mg x = some (.ref f)) (hk : PySem.W.keepIn X.K (.ref f) = true) (hb : Binds X.K fd ps ds) (hd : Vals dvs ds) (hx : Passes CX X E)
    (ha : PA X (e :: es) t) (hdb : (x == ("__debug__" : Str)) = false := by decide) (he : starEach (e :: es) X.env = (false, eval e X.env) :: starEach es X.env := by rfl) (hpl : (backTo pos (starEach es X.env)).any (·.1) = false := by rfl) :
    PE X (.Call (.Name x p) (e :: es) [] pos) (tCall sp dvs E t) :=
  ⟨fun pins s σ H Q I h => wpAny_Call_Name_kw (ld_glob I hg hm (PySem.W.callWith_K (h₀ := X.base) I.ok.mod.kin hk (thn (ha.run pos pins s σ H _ I h) fun _ _ ⟨_, _, I1, r, q⟩ => ⟨I1.kIn, run_fnG F g hr hb hd hx I1 r q⟩) he hpl) hdb)⟩
end
theorem guards_deeper {A : Around} {e : Env} (h : A.guards = some []) : (A.deeper e).guards = some [] := by
  first | exact h | (unfold Around.deeper; simpa using h)
section
variable {P : Program} {w : World} {K : PySem.W.Frag} {mg : Str → Option Value} {base : Heap}
/-- a def of the text, its body walked where no repr is under way -/
theorem fnG_of {CX : CXT} {k : Nat} {x qual : Str} {st : Stmt} {f : Addr} {fd : FuncData} {N ps : List Str} {sp : Sp} (F : Fun K x qual st f fd) (S : FnScope N ps (defScope st)) (len : ∀ vs H Q E, sp vs H Q E → vs.length = ps.length)
    (hbody : ∀ (cdv : Value) (A : Around) (outer : List Env) (s : Shared) (H : Hp) (vs : List V) (Q : VK) (E : XK), A.guards = some [] → Room k (A.deeper (envOfC qual (defScope st) s.heap.objs.size f cdv)) → sp vs H Q E →
      ∃ t, PSs (cxOf CX P w K mg base N qual (defScope st) f cdv A outer s H E) (defBody st) t ∧ t { nx := fun _ H' => Q .non H', rt := Q } (start N vs) H) : FnG P w K mg base CX (k + 1) f fd ps sp := by
  obtain ⟨oc, od, kV, doc, pm, an, cdv, ct, osl, rfl, lk, hcd⟩ := F.ex
  refine ⟨len, fun A g outer s H args us vs Q E hr e0 hb r hsp => ?_⟩
  have inHeap : K.In s.heap := e0.mod.kin.keeps fun b o e => (e0.bs b o e).1
  have kinds : ∀ y ∈ ps.zip us, (defScope st).names.lookup y.1 = some .local ∨ ((defScope st).names.lookup y.1 = some .cell ∧ ((cellsFrom (s.heap.objs.size + 1) (defScope st).names []).lookup y.1).isSome = true) := fun y hy =>
    (S.par y.1 (List.of_mem_zip hy).1).imp id fun q => ⟨q, PySem.W.cellsFrom_some _ _ _ (.inl q)⟩
  refine codeAny_call_function hr.depth (inHeap _ _ lk) rfl S.co S.gen rfl (PySem.W.codeRec_of inHeap hcd) (hb _ _ _ _ ?_)
  refine wpAny_newFunctionEnv_cells S.kind kinds fun env he s1 y => ?_
  subst he
  obtain ⟨t, ht, hq⟩ := hbody cdv A outer s H vs Q E g (hr.deeper _) hsp
  have I := inv_start (CX := CX) (E := E) S hr.hd e0 (len _ _ _ _ hsp) r y
  refine ⟨(e0.mod.nolimit.keeps fun b o e => (e0.bs b o e).1).keeps y.toInCall.keep, codeAny_func (wpAny_mono (ht.run [] s1 (start N vs) H _ I hq) (fun fl s' hs => ?_) fun _ _ hs => hs)⟩
  match fl, hs with
  | .ret u, ⟨v, _, H', J, rv, q⟩ => exact ⟨v, H', J.os, J.bare, J.base, J.hok, rv, q⟩
  | .next, ⟨_, H', J, q⟩ => exact ⟨.non, H', J.os, J.bare, J.base, J.hok, rfl, q⟩
  | .brk, ⟨_, _, _, q⟩ => exact False.elim q
  | .cont, ⟨_, _, _, q⟩ => exact False.elim q
end
theorem noDict : ∀ (K : PySem.W.Frag) (H : Hp) (d : PyData) (v : V), Dp K H v d → d.hasDict = false := by
  intro K H d v h
  refine Dp.rec (motive_1 := fun _ d _ => d.hasDict = false) (motive_2 := fun _ ds _ => PyData.hasDictAll ds = false) ?_ ?_ ?_ ?_ ?_ ?_ ?_ ?_ h
  · rfl
  · intro b; rfl
  · intro i; rfl
  · intro x; rfl
  · intro a xs ds _ _ ih; exact ih
  · intro a xs ds _ _ ih; exact ih
  · rfl
  · intro v vs d ds _ _ h1 h2
    show (PyData.hasDict d || PyData.hasDictAll ds) = false
    rw [h1, h2]; rfl
end Jg
namespace Jg
open PySem PySem.Spec PyProof.Rows L2
theorem iteFe {A D : Prop} {b : Bool} (e : b = false) (h : D) : if b = true then A else D := by rw [e]; exact iteF h
theorem iteTe {A D : Prop} {b : Bool} (e : b = true) (h : A) : if b = true then A else D := by rw [e]; exact iteT h
section
variable (P : Program) (w : World) (K : PySem.W.Frag) (mg : Str → Option Value) (base : Heap) (CX : CXT) (k : Nat)
/-- a method of the class at C -/
structure Met (C : Addr) (m : Str) (sp : Sp) : Prop where
  ex : ∃ f fd ps, FnOk P w K mg base CX k f fd ps sp ∧ PySem.W.findIn K (.ref C) m = some (some (.ref f)) ∧ PySem.W.isFn K (.ref f) = true ∧ PySem.W.keepIn K (.ref f) = true ∧ Binds K fd ps []
structure Prp (C : Addr) (m : Str) (sp : Sp) : Prop where
  ex : ∃ p f fd ps, FnOk P w K mg base CX k f fd ps sp ∧ PropOf K C m p f ∧ Binds K fd ps []
end
/-- how a def of the text binds its arguments -/
def BindOk (x qual : Str) (st : Stmt) (ps : List Str) : Prop :=
  ∀ (kV doc pm : Value) (an : Option Addr) (cdv ct : Value) (us : List Value), us.length = ps.length → bindArgs (PySem.W.fnOf x qual (defArgs st) (defBody st) (defScope st) .none kV doc pm an cdv ct) ⟨us, []⟩ = pure (ps.zip us)
/-- what a body must show -/
def BodyOk (CX : CXT) (P : Program) (w : World) (K : PySem.W.Frag) (mg : Str → Option Value) (base : Heap) (N : List Str) (qual : Str) (st : Stmt) (f : Addr) (k : Nat) (sp : Sp) : Prop :=
  ∀ (cdv : Value) (A : Around) (outer : List Env) (s : Shared) (H : Hp) (vs : List V) (Q : VK) (E : XK), Room k (A.deeper (envOfC qual (defScope st) s.heap.objs.size f cdv)) → sp vs H Q E →
      ∃ t, PSs (cxOf CX P w K mg base N qual (defScope st) f cdv A outer s H E).nox (defBody st) t ∧ t { nx := fun _ H' => Q .non H', rt := Q } (start N vs) H
section
variable {P : Program} {w : World} {K : PySem.W.Frag} {mg : Str → Option Value} {base : Heap} {k : Nat} {C : Addr} {mc : Value} {x m qual : Str} {st : Stmt} {N ps : List Str} {sp : Sp}
theorem DefK.cal (D : DefK K mg x st) (S : FnScope N ps (defScope st)) (b : BindOk x x st ps) (len : ∀ vs H Q E, sp vs H Q E → vs.length = ps.length) (hb : ∀ f, BodyOk CX0 P w K mg base N x st f k sp) : Cal P w K mg base CX0 (k + 1) x sp :=
  let ⟨f, fd, F, m⟩ := D.ex
  ⟨f, fd, ps, F.ok S len (hb f), m, F.kp, F.binds b⟩
theorem DefK.calG (D : DefK K mg x st) (S : FnScope N ps (defScope st)) (b : BindOk x x st ps) (len : ∀ vs H Q E, sp vs H Q E → vs.length = ps.length)
    (hb : ∀ (f : Addr) (cdv : Value) (A : Around) (outer : List Env) (s : Shared) (H : Hp) (vs : List V) (Q : VK) (E : XK), (cxOf CX0 P w K mg base N x (defScope st) f cdv A outer s H E).nox.A.guards = some [] → Room k (A.deeper (envOfC x (defScope st) s.heap.objs.size f cdv)) → sp vs H Q E →
      ∃ t, PSs (cxOf CX0 P w K mg base N x (defScope st) f cdv A outer s H E).nox (defBody st) t ∧ t { nx := fun _ H' => Q .non H', rt := Q } (start N vs) H) : CalG P w K mg base CX0 (k + 1) x sp :=
  let ⟨f, fd, F, m⟩ := D.ex
  ⟨f, fd, ps, fnG_of F S len fun cdv A outer s H vs Q E g hr h =>
    let ⟨t, a, q⟩ := hb f cdv A outer s H vs Q E (guards_deeper g) hr h
    ⟨t, a.nox, q⟩, m, F.kp, F.binds b⟩
theorem MetK.met (D : MetK K C m qual st) (S : FnScope N ps (defScope st)) (b : BindOk m qual st ps) (len : ∀ vs H Q E, sp vs H Q E → vs.length = ps.length) (hb : ∀ f, BodyOk CX0 P w K mg base N qual st f k sp) : Met P w K mg base CX0 (k + 1) C m sp :=
  let ⟨f, fd, F, a, i⟩ := D.ex
  ⟨f, fd, ps, F.ok S len (hb f), a, i, F.kp, F.binds b⟩
theorem PrpK.prp (D : PrpK K C m qual st) (S : FnScope N ps (defScope st)) (b : BindOk m qual st ps) (len : ∀ vs H Q E, sp vs H Q E → vs.length = ps.length) (hb : ∀ f, BodyOk CX0 P w K mg base N qual st f k sp) : Prp P w K mg base CX0 (k + 1) C m sp :=
  let ⟨p, f, fd, F, a⟩ := D.ex
  ⟨p, f, fd, ps, F.ok S len (hb f), a, F.binds b⟩
end
section
variable {X : Cx} {k j : Nat} {C : Addr} {mc : Value} {x m : Str} {sp : Sp} {p pos apos : Pos} {e o : Expr} {es : List Expr} {ta : TE} {t : TA}
theorem pe_c (c : Cal X.prog X.w X.K X.mg X.base CX0 k x sp) (hr : Room j X.A) (hk : k ≤ j) (hg : Gl X x) (ha : PA X (e :: es) t)
    (hdb : (x == ("__debug__" : Str)) = false := by decide) (he : starEach (e :: es) X.env = (false, eval e X.env) :: starEach es X.env := by rfl) (hpl : (backTo pos (starEach es X.env)).any (·.1) = false := by rfl) :
    PE X (.Call (.Name x p) (e :: es) [] pos) (tCall sp [] E0 t) := by
  obtain ⟨f, fd, ps, F, hm, kp, b⟩ := c.ex
  exact pe_call F (hr.mono hk) hg hm kp b .nil pass0 ha hdb he hpl
theorem pe_cG (c : CalG X.prog X.w X.K X.mg X.base CX0 k x sp) (g : X.A.guards = some []) (hr : Room j X.A) (hk : k ≤ j) (hg : Gl X x) (ha : PA X (e :: es) t)
    (hdb : (x == ("__debug__" : Str)) = false := by decide) (he : starEach (e :: es) X.env = (false, eval e X.env) :: starEach es X.env := by rfl) (hpl : (backTo pos (starEach es X.env)).any (·.1) = false := by rfl) :
    PE X (.Call (.Name x p) (e :: es) [] pos) (tCall sp [] E0 t) := by
  obtain ⟨f, fd, ps, F, hm, kp, b⟩ := c.ex
  exact pe_callG F g (hr.mono hk) hg hm kp b .nil pass0 ha hdb he hpl
/-- a class that is made by its name -/
structure Mak (P : Program) (w : World) (K : PySem.W.Frag) (mg : Str → Option Value) (base : Heap) (CX : CXT) (k : Nat) (x : Str) (C : Addr) (sp : Sp) : Prop where
  mg_ : mg x = some (.ref C)
  mks : PySem.W.makesIn K C = true
  kp : PySem.W.keepIn K (.ref C) = true
  init : Met P w K mg base CX k C "__init__" sp
theorem pe_mk (c : Mak X.prog X.w X.K X.mg X.base CX0 k x C sp) (hr : Room j X.A) (hk : k + 1 ≤ j) (hg : Gl X x) (ha : PA X (e :: es) t)
    (hdb : (x == ("__debug__" : Str)) = false := by decide) (he : starEach (e :: es) X.env = (false, eval e X.env) :: starEach es X.env := by rfl) (hpl : (backTo pos (starEach es X.env)).any (·.1) = false := by rfl) :
    PE X (.Call (.Name x p) (e :: es) [] pos) (tMake C sp [] E0 t) := by
  obtain ⟨f, fd, ps, F, a, i, kp, b⟩ := c.init.ex
  exact pe_make ⟨c.mks, a, i, c.kp⟩ F (hr.mono hk) hg c.mg_ b .nil pass0 ha hdb he hpl
theorem pe_p (c : Prp X.prog X.w X.K X.mg X.base CX0 k C m sp) (cl : Cls X.K C) (hr : Room j X.A) (hk : k + 1 ≤ j) (he : PE X o ta)
    (hab : attributeBase o m X.env (eval o X.env) = eval o X.env := by rfl) : PE X (.Attribute o m pos) (tProp C sp [] E0 ta) := by
  obtain ⟨q, f, fd, ps, F, a, b⟩ := c.ex
  exact pe_prop he cl a F (hr.mono hk) b .nil pass0 hab
/-- a name of the module, by its value; a built-in type by its name -/
theorem pe_gc {v : V} (hg : Gl X x) (h : ∃ u, X.mg x = some u ∧ L2.RelV v u) (hd : (x == ("__debug__" : Str)) = false := by decide) : PE X (.Name x pos) (tC v) := by
  obtain ⟨u, hm, r⟩ := h
  exact pe_glob hg hm r hd
theorem pe_ty {n : String} (hg : Gl X x) (hm : X.mg x = none) (hv : bootBuiltins x = some (.type n)) (hn : x ≠ "__name__" := by decide) (hd : (x == ("__debug__" : Str)) = false := by decide) : PE X (.Name x pos) (tC (.ty n)) :=
  pe_bltn (v := .ty n) (u := .type n) hg hm hv rfl hn hd
end
end Jg
namespace Jg
open PySem PySem.Spec PyProof.Rows L2
/-- the shape that a list comprehension's reading asks -/
abbrev LcAsk (J : It) (g : TG) (tt : TT) (te : TE) (vs : List Nat) (σ : L2.St) (H1 : Hp) (D : Addr) (Qd : Hp → Prop) : Prop :=
  ∃ W : Nat → Nat → Hp → Prop, (∃ m, W 0 m (upd H1 D (.lst []))) ∧ ∀ i m H, W i m H →
      (J.stop i H ∧ Qd H) ∨ (J.go i H ∧ ∃ Nx : Hp → Prop, (∀ H', Nx H' → ∃ m', m' < m ∧ W (i + 1) m' H') ∧ ∀ x H', J.yld i H x H' → g x (wipe σ vs) H' fun σ2 H2 => wipe σ2 vs = wipe σ vs ∧ tt σ2 H2 fun b H3 =>
        if b = true then te σ2 H3 fun y H4 => ∃ acc, H4 D = some (.lst acc) ∧ acc.length < sizeLine ∧ Nx (upd H4 D (.lst (acc ++ [y]))) else Nx H3)
end Jg
namespace Jg
open PySem PySem.Spec PyProof.Rows L2
theorem lay_ints : ∀ xs : List Int, PyData.canLayAll0 (xs.map PyData.int) = true
  | [] => rfl
  | x :: xs => by
    show (PyData.canLay0 (.int x) && PyData.canLayAll0 (xs.map PyData.int)) = true
    rw [lay_ints xs]; rfl
theorem depth_ints : ∀ xs : List Int, PyData.depthAll (xs.map PyData.int) = 0
  | [] => rfl
  | x :: xs => by
    show max (PyData.depth (.int x)) (PyData.depthAll (xs.map PyData.int)) = 0
    rw [depth_ints xs]; rfl
theorem shaped_tup (xs : List Int) : SeqAt.shaped (.tuple (xs.map PyData.int)) = true := by
  show (PyData.canLayAll0 (xs.map PyData.int) && decide (PyData.depthAll (xs.map PyData.int) + 1 ≤ 64)) = true
  rw [lay_ints, depth_ints]; rfl
theorem eqvAll_ints : ∀ xs ys : List Int, PyData.eqvAll (xs.map PyData.int) (ys.map PyData.int) = decide (xs = ys)
  | [], [] => rfl
  | [], y :: ys => rfl
  | x :: xs, [] => rfl
  | x :: xs, y :: ys => by
    have ih := eqvAll_ints xs ys
    show (PyData.eqv (.int x) (.int y) && PyData.eqvAll (xs.map PyData.int) (ys.map PyData.int)) = _
    rw [ih]
    have e : PyData.eqv (.int x) (.int y) = decide (x = y) := by
      by_cases c : x = y
      · subst c; simp [PyData.eqv]
      · simp [PyData.eqv, c]
    rw [e]
    by_cases c : x = y
    · subst c
      by_cases d : xs = ys
      · subst d; simp
      · simp [d]
    · simp [c]
theorem eqv_tup (xs ys : List Int) : PyData.eqv (.tuple (xs.map PyData.int)) (.tuple (ys.map PyData.int)) = decide (xs = ys) := by
  rw [PyData.eqv]; exact eqvAll_ints xs ys
theorem pair_dec {a b c d : Int} : decide ([a, b] = [c, d]) = decide ((a, b) = (c, d)) := by
  by_cases h : (a, b) = (c, d)
  · cases h; rw [decide_eq_true rfl, decide_eq_true rfl]
  · rw [decide_eq_false h, decide_eq_false fun z => h (by injection z with z1 z2; injection z2 with z2 _; rw [z1, z2])]
end Jg
namespace Jg
open PySem PySem.Spec PyProof.Rows L2
/-- a set just made -/
def mtSet (w : World) : Obj := { cls := .type "set", dict := none, data := .set #[] 0 (.fresh 0 0 (!w.params.followText "set-order")) }
section
variable {P : Program} {w : World} {A : Around} {E : Value → Shared → Prop} {s : Shared}
theorem mt_at (w : World) (h : Heap) : (h.push (mtSet w)).get? h.objs.size = some (mtSet w) := Heap.get?_push_size _ rfl
end
end Jg
namespace Jg
open PySem PySem.Spec PyProof.Rows L2
section
variable {X : Cx} {pins : List (Addr × Obj)} {σ : L2.St} {H : Hp} {a : Addr} {cls : Value} {d : Option Addr} {s : Shared}
end
section
variable {X : Cx} {Wout : WX}
/-- try: body / clauses -/
theorem ps_try {body : List Stmt} {h₀ : ExceptHandler} {hds : List ExceptHandler} {w : Ends → WX} {pos : Pos} {tb : WX → TS} (hd : Hds X Wout (h₀ :: hds) w) (hs : X.stack = X.env :: X.outer) (fr : X.env.frame = some X.env.locals) (hN : X.N.Nodup) (tk : Takes X Wout)
    (hb : ∀ (W : WX) (pn : List (Addr × Obj)) (xe : Value → Shared → Prop), Takes (X.tr pn xe) W → PassesOwn (model X.prog X.w) X.A X.env xe → PSs (X.tr pn xe) body (tb W)) :
    PS X (.Try body (h₀ :: hds) [] [] pos) fun D σ H => tb (w D) D σ H := by
  refine ⟨fun pins s σ H D I h => wpAny_Try_except ?_⟩
  have ok := I.ok
  let xe : Value → Shared → Prop := fun e s1 => wpAny (model X.prog X.w) X.A (noteFrame e X.env) (fun _ s2 => wpAny (model X.prog X.w) X.A (setFlight e .none) (fun _ s3 => wpAny (model X.prog X.w) X.A (handleBy e X.env (h₀ :: hds)) (SP X pins D) X.xe s3) X.xe s2) X.xe s1
  have tkb : Takes (X.tr (X.pn ++ pins) xe) (w D) := by
    rintro u s1 ⟨a, B, s0, pins', σ1, H1, cls, d, rfl, J', keep, up, sky, z, os, bare, wd⟩
    have J : Inv X pins σ1 H1 s0 := J'.ofTry ok
    have fl : Sky B (X.env :: X.outer) a (Zc cls d) X.env.locals s1.heap := by rw [← hs]; exact sky
    show wpAny (model X.prog X.w) X.A (noteFrame (.ref a) X.env) _ _ _
    refine Sky.land Zc.steady (by rw [ok.frames, hs]) fr fl fun h3 fly up3 => ?_
    exact hd.run hs fr hN tk ⟨B, s0, J, keep, up.trans up3, fly, os, bare, z⟩ wd
  refine wpAny_mono ((hb (w D) (X.pn ++ pins) xe tkb PassesOwn.looking).run [] s σ H D (I.toTry xe) h) (fun f s1 z => ?_) fun _ _ z => z
  match f, z with
  | .next, ⟨_, _, J, q⟩ => exact wpAny_execs_nil ⟨_, _, J.ofTry ok, q⟩
  | .brk, ⟨_, _, J, q⟩ => exact ⟨_, _, J.ofTry ok, q⟩
  | .cont, ⟨_, _, J, q⟩ => exact ⟨_, _, J.ofTry ok, q⟩
  | .ret u, ⟨_, _, _, J, rv, q⟩ => exact ⟨_, _, _, J.ofTry ok, rv, q⟩
end
section
variable {X : Cx} {k j : Nat} {C : Addr} {x m : Str} {sp : Sp} {W : WX} {p pos : Pos} {e : Expr} {es : List Expr} {t : TA}
theorem pe_cS (c : Cal X.prog X.w X.K X.mg X.base (L2.CX X.prog X.w) k x sp) (tk : Takes X W) (hr : Room j X.A) (hk : k ≤ j) (hg : Gl X x) (ha : PA X (e :: es) t)
    (hdb : (x == ("__debug__" : Str)) = false := by decide) (he : starEach (e :: es) X.env = (false, eval e X.env) :: starEach es X.env := by rfl) (hpl : (backTo pos (starEach es X.env)).any (·.1) = false := by rfl) :
    PE X (.Call (.Name x p) (e :: es) [] pos) (tCallS sp (WE W) t) := by
  obtain ⟨f, fd, ps, F, hm, kp, b⟩ := c.ex
  exact pe_callS F (hr.mono hk) hg hm kp b (passAt tk) ha hdb he hpl
end
section
variable {P : Program} {w : World} {K : PySem.W.Frag} {mg : Str → Option Value} {base : Heap} {k : Nat} {C : Addr} {x m qual : Str} {st : Stmt} {N ps : List Str} {sp : Sp}
/-- what a body that may raise must show -/
def BodyX (P : Program) (w : World) (K : PySem.W.Frag) (mg : Str → Option Value) (base : Heap) (N : List Str) (qual : Str) (st : Stmt) (f : Addr) (k : Nat) (sp : Sp) : Prop :=
  ∀ (cdv : Value) (A : Around) (outer : List Env) (s : Shared) (H : Hp) (vs : List V) (Q : VK) (E : XK), Room k (A.deeper (envOfC qual (defScope st) s.heap.objs.size f cdv)) → sp vs H Q E →
      ∃ t, PSs (cxOf (L2.CX P w) P w K mg base N qual (defScope st) f cdv A outer s H E) (defBody st) t ∧ t { nx := fun _ H' => Q .non H', rt := Q } (start N vs) H
theorem DefK.calX (D : DefK K mg x st) (S : FnScope N ps (defScope st)) (b : BindOk x x st ps) (len : ∀ vs H Q E, sp vs H Q E → vs.length = ps.length) (hb : ∀ f, BodyX P w K mg base N x st f k sp) : Cal P w K mg base (L2.CX P w) (k + 1) x sp :=
  let ⟨f, fd, F, m⟩ := D.ex
  ⟨f, fd, ps, F.okX S len (hb f), m, F.kp, F.binds b⟩
theorem MetK.metX (D : MetK K C m qual st) (S : FnScope N ps (defScope st)) (b : BindOk m qual st ps) (len : ∀ vs H Q E, sp vs H Q E → vs.length = ps.length) (hb : ∀ f, BodyX P w K mg base N qual st f k sp) : Met P w K mg base (L2.CX P w) (k + 1) C m sp :=
  let ⟨f, fd, F, a, i⟩ := D.ex
  ⟨f, fd, ps, F.okX S len (hb f), a, i, F.kp, F.binds b⟩
end
/-- __init__ that keeps its one argument in the field f -/
def spX (C : Addr) (f : Str) : Sp := fun vs H Q _ => ∃ a y, vs = [.ref a, y] ∧ H a = some (exo a C none) ∧ ∀ dx, H dx = none → dx ≠ a → Q .non (upd (upd H dx (exd dx [(f, y)])) a (exo a C (some dx)))
/-- .. called: the exception's dict is new, all else stays -/
theorem x_read {C : Addr} {f : Str} {y : V} {H : Hp} {Q : XK} (h : ∀ d, H d = none → Q (.ref C) (some d) (upd H d (.xd [(f, y)]))) : ([y] : List V).length ≤ 1000 ∧ ∀ a, H a = none → spX C f (.ref a :: ([y] ++ [])) (upd H a (exo a C none))
    (fun v H2 => v = .non ∧ ∃ (d : Addr) (fs : List (Str × V)), H2 a = some (exo a C (some d)) ∧ H2 d = some (exd d fs) ∧ H d = none ∧ Q (.ref C) (some d) (upd (del H2 a) d (.xd fs))) fun _ _ _ => False := by
  refine ⟨by show 1 ≤ 1000; decide, fun a na => ⟨a, y, rfl, upd_same, fun dx nd ne => ⟨rfl, dx, [(f, y)], upd_same, ?_, ?_, ?_⟩⟩⟩
  · rw [upd_ne ne, upd_same]
  · rw [upd_ne ne] at nd
    exact nd
  · have nd' : H dx = none := by rw [upd_ne ne] at nd; exact nd
    have e : upd (del (upd (upd (upd H a (exo a C none)) dx (exd dx [(f, y)])) a (exo a C (some dx))) a) dx (.xd [(f, y)]) = upd H dx (.xd [(f, y)]) := by
      funext b
      by_cases c1 : b = dx
      · rw [c1, upd_same, upd_same]
      · rw [upd_ne c1, upd_ne c1]
        by_cases c2 : b = a
        · rw [c2, del_same, na]
        · rw [del_ne c2, upd_ne c2, upd_ne c1, upd_ne c2]
    rw [e]
    exact h dx nd'
end Jg
namespace Jg
open PySem PySem.Spec PyProof.Rows L2
def rShw (K : PySem.W.Frag) : List V → Hp → VK → Prop := fun xs H Q => ∃ v x, xs = [v] ∧ Shw K H v x ∧ Q (.str x) H
section
variable {X : Cx}
theorem dk_nil {P : Program} {w : World} {H : Hp} {h : Heap} {a : Addr} (ok : HOk P w H h) (e : H a = some (.dK [])) : ∃ as, Reads h (.ref a) (.dict []) as ∧ sysModules ∉ as := by
  obtain ⟨_, na, vs, kv, o, es, n, at_, ex, dt, _, pr, _⟩ := ok a _ e
  cases kv
  have e0 : es.toList = [] := by
    revert pr
    generalize es.toList = l
    intro pr
    cases pr
    rfl
  have r1 : ReadsAll h (es.toList.map (·.key)) (([] : List (PyData × PyData)).map (·.1)) [] := by rw [e0]; exact ReadsAll.nil
  have r2 : ReadsAll h (es.toList.map (·.val)) (([] : List (PyData × PyData)).map (·.2)) [] := by rw [e0]; exact ReadsAll.nil
  refine ⟨_, Reads.dict at_ ex.1 dt r1 r2, fun m => ?_⟩
  have z : sysModules = a := by simpa using m
  rw [← z] at na
  cases na
theorem call_shw (g : X.A.guards = some []) (hu : X.A.units + 64 < cLine) : CallR X (.builtin "repr") (rShw X.K) := by
  intro pins s σ H xs us Q I r h
  obtain ⟨v, x, rfl, sh, q⟩ := h
  obtain ⟨u, rfl, ru⟩ := vals1 r
  cases sh with
  | non => cases ru; exact PySem.P.repr_of_none ⟨.str _, H, I.tok _, ⟨_, rfl⟩, q⟩
  | bl b => cases ru; exact PySem.P.repr_of_bool ⟨.str _, H, I.tok _, ⟨_, rfl⟩, q⟩
  | int i hz => obtain ⟨t, rfl⟩ := ru; exact PySem.P.repr_of_int hz ⟨.str _, H, I.tok _, ⟨_, rfl⟩, q⟩
  | str y hz => obtain ⟨t, rfl⟩ := ru; exact PySem.P.repr_of_str ⟨.str _, H, I.tok _, ⟨_, rfl⟩, q⟩ hz
  | dat hd hs dp hz =>
    cases ru
    obtain ⟨as, R⟩ := Dp.reads I _ _ (.ref _) hd rfl
    exact repr_of_reads' R hs (PyData.noDict_hsm (noDict _ _ _ _ hd)) g (by omega) (fun _ _ e => e) (fun h' u tk hk => ⟨.str _, H, I.kept hk, ⟨_, rfl⟩, q⟩) hz
  | dnew e =>
    cases ru
    obtain ⟨as, R, na⟩ := dk_nil I.hok e
    have dp : (PyData.dict []).depth ≤ 40 := by decide +kernel
    exact repr_of_reads' R (by decide +kernel) (fun _ => na) g (by omega) (fun _ _ e => e) (fun h' u tk hk => ⟨.str _, H, I.kept hk, ⟨_, rfl⟩, q⟩) (by decide +kernel)
end
end Jg
namespace Jg
open PySem PySem.Spec PyProof.Rows L2
end Jg
namespace Jg
open PySem PySem.Spec PyProof.Rows L2
theorem taker0 {K : PySem.W.Frag} {C : Addr} {f : Str} (h : PySem.W.findIn K (.ref C) f = some none) : PySem.W.takerIn K C f = some none := by
  unfold PySem.W.takerIn
  rw [h]
  rfl
section
variable {X : Cx} {pins : List (Addr × Obj)} {σ : L2.St} {H : Hp} {s : Shared} {a C : Addr} {f : Str} {y : V} {u : Value} {Q : Unit → Shared → Prop} {E : Value → Shared → Prop} {A : Around}
/-- the first field of an exception that is being made: its dict comes to be -/
theorem keep_first (T : Ovr X.K C) (I : Inv X pins σ H s) (e : H a = some (exo a C none)) (no : PySem.W.findIn X.K (.ref C) f = some none) (ry : RelV y u)
    (h : ∀ dx s', H dx = none → dx ≠ a → Inv X pins σ (upd (upd H dx (exd dx [(f, y)])) a (exo a C (some dx))) s' → Q () s') : wpAny (model X.prog X.w) A (setAttr (.ref a) f u) Q E s := by
  obtain ⟨B, nid, iid, line, T⟩ := T
  obtain ⟨t1, ho⟩ := exo_at I.hok e
  obtain ⟨cd, hc, hdd⟩ := PySem.W.any_some T.hd
  have kin := I.kIn
  obtain ⟨hp, g, d, t, os⟩ := s
  refine PySem.W.set_plain (ox := PySem.W.excObj C t1 none .none) (od := none) kin ⟨ho, rfl, rfl, trivial⟩ T.sa ?_
  refine PySem.W.osa_openX (od := none) T.sB kin ⟨ho, rfl, rfl, trivial⟩ T.ovr (taker0 no) fun b => ?_
  refine wpAny_bind (wpAny_pure (wpAny_bind (PySem.W.instanceDict_exc ho (PySem.W.looks_clsIn kin hc) hdd ?_)))
  have below : a < hp.objs.size := Heap.lt_size ho
  have apart : a ≠ hp.objs.size := Nat.ne_of_lt below
  have ho2 : (hp.push (PySem.W.dictOf [] 0)).get? a = some (PySem.W.excObj C t1 none .none) := Heap.get?_push_of_some _ ho
  show wpAny _ _ (Builtin.ObjectAttr.storeInDict hp.objs.size (.str f _) f u) _ _ _
  refine HandSPX.store_in_new ⟨_, #[], _, (Heap.get?_update_ne _ _ _ _ apart.symm).trans (Heap.get?_push_at rfl rfl), rfl, fun _ z => absurd z (by simp), fun _ => rfl⟩ fun h2 tk2 ns1 same => ?_
  -- the dict first, then the exception
  obtain ⟨od, es, ep, hod, rest⟩ := id ns1
  have ha2 : h2.get? a = some (PySem.W.excObj C t1 (some hp.objs.size) .none) := (same.2 a apart).trans (Heap.get?_update_self _ ho2 rfl)
  have stays : ∀ c o, c ≠ a → hp.get? c = some o → h2.get? c = some o := fun c o n z =>
    (same.2 c (Nat.ne_of_lt (Heap.lt_size z))).trans ((Heap.get?_update_ne _ _ _ _ n).trans (Heap.get?_push_of_some _ z))
  have nd : H hp.objs.size = none := I.hok.fresh (Nat.le_refl _)
  have fr : od.isFreed = false := (Heap.get?_some_iff.mp hod).2
  have hg : (hp.push od).get? hp.objs.size = some od := Heap.get?_push_at rfl fr
  have I1 : Inv X pins σ (upd H hp.objs.size (exd hp.objs.size [(f, y)])) ⟨hp.push od, g, d, t, os⟩ :=
    I.laid (a := hp.objs.size) (t' := t) (o := exd hp.objs.size [(f, y)]) (h' := hp.push od) (fun c o z => Heap.get?_push_of_some _ z) (Nat.le_refl _)
      (exd_ok (ns1.at fun o z => by rw [hod] at z; cases z; exact hg) (relO_put (fs := []) ry fun _ => True.intro))
  have e1 : upd H hp.objs.size (exd hp.objs.size [(f, y)]) a = some (exo a C none) := by rw [upd_ne apart]; exact e
  have I2 := I1.write (x := a) (e := a) (t' := tk2) (h' := h2) (o := exo a C (some hp.objs.size)) (by rw [e1]; exact True.intro) (.inl rfl)
    (fun c o n z => by
      by_cases k : c = hp.objs.size
      · subst k
        rw [hg] at z
        cases z
        exact hod
      · have z' : hp.get? c = some o := by
          rw [Heap.get?_push_ne _ _ _ k] at z
          exact z
        exact stays c o n z') ⟨_, ha2⟩ (exo_ok ha2)
  exact h _ _ nd apart.symm I2
end
/-- self.f = e in an exception's __init__ -/
def tKeep (K : PySem.W.Frag) (f : Str) (to te : TE) : TS := fun D σ H => te σ H fun y H1 => to σ H1 fun x H2 => ∃ a C : Addr, x = .ref a ∧ Ovr K C ∧ PySem.W.findIn K (.ref C) f = some none ∧
  H2 a = some (exo a C none) ∧ ∀ dx, H2 dx = none → dx ≠ a → D.nx σ (upd (upd H2 dx (exd dx [(f, y)])) a (exo a C (some dx)))
theorem ps_keep {X : Cx} {o e : Expr} {to te : TE} {f : Str} {p' pos : Pos} (ho : PE X o to) (he : PE X e te) (hs : swapsWith e (some (.Attribute o f p')) pos.line X.env = pure false := by rfl) : PS X (.Assign [.Attribute o f p'] e pos) (tKeep X.K f to te) :=
  ⟨fun pins s σ H D I h => plainObj_wpAny_Assign_Attribute (thn (he.run pins s σ H _ I h) fun v s1 ⟨y, H1, I1, r1, q1⟩ => thn (ho.run pins s1 σ H1 _ I1 q1) fun u s2 ⟨x, H2, I2, r2, a, C, ex, T, no, ea, q⟩ => by
    subst ex
    obtain rfl : u = Value.ref a := r2
    exact keep_first T I2 ea no r1 fun dx s' n ne J => ⟨σ, _, J, q dx n ne⟩) hs⟩
/-- an exception class of the program with an own __init__, over any built-in one -/
structure ExnB (P : Program) (w : World) (K : PySem.W.Frag) (mg : Str → Option Value) (base : Heap) (k : Nat) (x : Str) (C : Addr) (sp : Sp) : Prop where
  mg_ : mg x = some (.ref C)
  cls : Ovr K C
  init : ∃ fI fd ps, FnOk P w K mg base CX0 k fI fd ps sp ∧ PySem.W.findIn K (.ref C) "__init__" = some (some (.ref fI)) ∧ PySem.W.typeIn K (.ref fI) = some (.type "function") ∧ Binds K fd ps []
theorem pmk_b {X : Cx} {k j : Nat} {C : Addr} {x : Str} {sp : Sp} {p pos : Pos} {e : Expr} {es : List Expr} {t : TA} (c : ExnB X.prog X.w X.K X.mg X.base k x C sp) (hr : Room j X.A) (hk : k + 1 ≤ j) (hg : Gl X x) (ha : PA X (e :: es) t)
    (hdb : (x == ("__debug__" : Str)) = false := by decide) (he : starEach (e :: es) X.env = (false, eval e X.env) :: starEach es X.env := by rfl) (hpl : (backTo pos (starEach es X.env)).any (·.1) = false := by rfl) :
    PMk X (.Call (.Name x p) (e :: es) [] pos) (tMkO C sp [] t) := by
  obtain ⟨fI, fd, ps, F, at_, ty, b⟩ := c.init
  obtain ⟨B, nid, iid, line, T⟩ := c.cls
  intro pins s σ H Q I h
  refine wpAny_Call_Name_kw (ld_glob I hg c.mg_ (PySem.W.callWith_K (h₀ := X.base) I.ok.mod.kin T.kC (thn (ha.run pos pins s σ H _ I h) fun us s1 ⟨vs, H1, J, rs, short, go⟩ => ⟨J.kIn, ?_⟩) he hpl) hdb)
  obtain ⟨nm, N, qn, bs, bm, hdct, sn, sub, ab, col, dd, k0, k1, k2, k3, k5, hC, same⟩ := PySem.W.excInit_of J.kIn T.ini
  obtain ⟨hp, g, dr, tk, os⟩ := s1
  let n := hp.objs.size
  let h2 := (hp.push (PySem.W.kdv_tup us)).push (HandSPX.excO C n)
  have grown : ∀ b o, hp.get? b = some o → h2.get? b = some o := fun b o z => Heap.get?_push_of_some _ (Heap.get?_push_of_some _ z)
  have here : h2.get? (n + 1) = some (HandSPX.excO C n) := by
    show ((hp.push (PySem.W.kdv_tup us)).push (HandSPX.excO C hp.objs.size)).get? (hp.objs.size + 1) = some (HandSPX.excO C hp.objs.size)
    heap_get
  have hole : H1 (n + 1) = none := J.hok.fresh (Nat.le_succ _)
  have q0 := go (n + 1) hole
  have J2 : Inv X pins σ (upd H1 (n + 1) (exo (n + 1) C none)) ⟨h2, g, dr, tk, os⟩ := J.laid (t' := tk) (a := n + 1) (h' := h2) grown (Nat.le_succ _) (exo_ok here)
  have rel : Vals (V.ref (n + 1) :: (vs ++ [])) (Value.ref (n + 1) :: (us ++ [])) := .cons rfl (rs.append .nil)
  have many : (Value.ref (n + 1) :: us ++ []).length = ps.length := rel.length.symm.trans (F.len _ _ _ _ q0)
  have fits : us.length ≤ sizeLine := by
    have z := Paired.length rs
    rw [sizeLine_eq]
    omega
  have run := F.run _ X.stack _ _ ⟨Value.ref (n + 1) :: us, []⟩ _ _ _ (fun _ _ _ => False) ((hr.mono hk).make C us []) (J2.env0.make C us []) (b _ (Value.ref (n + 1) :: us) J2.kIn many) rel q0
  show wpAny _ _ (call (.ref C) us) _ _ _
  refine wpAny_call (HandSPX.call_own T.fB same hC (PySem.W.looks_findIn J.kIn at_) (fun self => PySem.W.bind_fn J.kIn self ty) fits (codeAny_mono run fun o s2 z => ?_))
  match o, z with
  | .error err, z => exact (pass0 : Passes CX0 X _) pins σ _ _ err s2 J2 z
  | .ok (.ret u), ⟨v, H2, os2, bare2, un2, hok2, rv, ev, d, fs, ea, ed, nd, q2⟩ =>
    subst ev
    exact ⟨rv, mk_end (raises_own T.exC T.tyC) J (Nat.le_succ _) grown un2 hok2 os2 bare2 ea ed nd q2⟩
def tMethS (C : Addr) (m : Str) (sp : Sp) (E : L2.St → XK) (ta : TE) (t : TA) : TE := fun σ H Q => ta σ H fun x H1 => ∃ a dx fs, x = .ref a ∧ H1 a = some (.ins C dx fs) ∧ fs.lookup m = none ∧ t σ H1 fun vs H2 => sp (.ref a :: vs) H2 Q (E σ)
section
variable {X : Cx} {k j : Nat} {C : Addr} {x m : Str} {sp : Sp} {W : WX} {p pos apos : Pos} {e o : Expr} {es : List Expr} {ta : TE} {t : TA}
theorem pe_mS {pl : Sem Bool} (c : Met X.prog X.w X.K X.mg X.base (L2.CX X.prog X.w) k C m sp) (cl : Cls X.K C) (tk : Takes X W) (hr : Room j X.A) (hk : k ≤ j) (he : PE X o ta) (ha : PA X (e :: es) t)
    (hst : starEach (e :: es) X.env = (false, eval e X.env) :: starEach es X.env := by rfl) (hpl : (backTo pos (starEach es X.env)).any (·.1) = false := by rfl)
    (ht : eval (.Call (.Attribute o m apos) (e :: es) [] pos) X.env = (do
      let ov ← eval o X.env
      standAt apos.atName
      let (f, first) ← holding [ov] (getMethod ov m pl)
      callWith pos f first (backTo pos (starEach (e :: es) X.env)) (backToKw pos (keywordEach [] X.env))) := by rfl) :
    PE X (.Call (.Attribute o m apos) (e :: es) [] pos) (tMethS C m sp (WE W) ta t) := by
  obtain ⟨f, fd, ps, F, at_, i, kp, b⟩ := c.ex
  refine ⟨fun pins s σ H Q I h => PySem.W.methodCall_KW (pl := pl) (thn (he.run pins s σ H _ I h) fun u s1 ⟨x, H1, I1, rx, a, dx, fs, ex, ea, l, q⟩ => ?_) ht⟩
  subst ex
  obtain rfl : u = Value.ref a := rx
  refine getmeth_ok I1 ea cl ⟨at_, i, kp⟩ l (PySem.W.callWith_K (first := [.ref a]) (h₀ := X.base) I.ok.mod.kin kp (thn (ha.run pos pins s1 σ H1 _ I1 q) fun us s2 ⟨vs, H2, I2, r, q2⟩ => ⟨I2.kIn, ?_⟩) hst hpl)
  exact run_fnS (E := WE W) (us := .ref a :: us) (vs := .ref a :: vs) F (hr.mono hk) b (passAt tk σ) I2 (.cons rfl r) q2
end
structure MakW (P : Program) (w : World) (K : PySem.W.Frag) (mg : Str → Option Value) (base : Heap) (CX : CXT) (k : Nat) (x : Str) (C : Addr) (ks : List Str) (gV : List V → List V → List V) (sp : Sp) : Prop where
  mg_ : mg x = some (.ref C)
  mks : PySem.W.makesIn K C = true
  kp : PySem.W.keepIn K (.ref C) = true
  ex : ∃ f fd ps g, FnOk P w K mg base CX k f fd ps sp ∧ PySem.W.findIn K (.ref C) "__init__" = some (some (.ref f)) ∧ PySem.W.isFn K (.ref f) = true ∧ KBn K fd ps 1 ks g gV
def tMakeKS (C : Addr) (m : Nat) (sp : Sp) (gV : List V → List V → List V) (E : L2.St → XK) (tk : TA) : TE := fun σ H Q => tk σ H fun zs H2 => zs.length = m ∧ ∀ x dx, H2 x = none → H2 dx = none → dx ≠ x →
  sp (gV [.ref x] zs) (upd (upd H2 dx (.own x)) x (.ins C dx [])) (fun v H3 => v = .non ∧ Q (.ref x) H3) (E σ)
section
variable {X : Cx} {k j : Nat} {C : Addr} {ks : List Str} {sp : Sp} {x : Str} {p pos : Pos} {kws : List Keyword} {ta : TA} {gV : List V → List V → List V} {W : WX}
theorem pe_mkKS (c : MakW X.prog X.w X.K X.mg X.base (L2.CX X.prog X.w) k x C ks gV sp) (tk : Takes X W) (hr : Room j X.A) (hk : k + 1 ≤ j) (hg : Gl X x) (hkw : PK X kws ta)
    (hall : (backToKw pos (keywordEach kws X.env)).all (·.1.isSome) = true := by rfl) (hks : (backToKw pos (keywordEach kws X.env)).filterMap (·.1) = ks := by rfl) (hdb : (x == ("__debug__" : Str)) = false := by decide)
    (hpl : ((backTo pos (starEach [] X.env)).any (·.1) || (backToKw pos (keywordEach kws X.env)).any (·.1.isNone)) = false := by rfl) :
    PE X (.Call (.Name x p) [] kws pos) (tMakeKS C ks.length sp gV (WE W) ta) := by
  obtain ⟨f, fd, ps, g, F, ini, fn, b⟩ := c.ex
  refine ⟨fun pins s σ H Q I h => wpAny_Call_Name_kw (ld_glob I hg c.mg_ (PySem.W.callWith_KW0 (h₀ := X.base) I.ok.mod.kin c.kp hall ?_ hpl) hdb)⟩
  refine thn (hkw.run pos pins s σ H _ I h) fun ws s2 ⟨zs, H2, J, rz, ln, q⟩ => ⟨J.kIn, ?_⟩
  rw [hks]
  let n := s2.heap.objs.size
  have q1 := q (n + 1) n (J.hok.fresh (Nat.le_succ _)) (J.hok.fresh (Nat.le_refl _)) (Nat.ne_of_lt (Nat.lt_succ_self _))
  have J2 := Inv.made (C := C) J
  have r1 : Vals [V.ref (n + 1)] [Value.ref (n + 1)] := .cons rfl .nil
  have run := F.run _ X.stack _ _ ⟨[Value.ref (n + 1)], ks.zip ws⟩ _ _ _ (WE W σ) ((hr.mono hk).make C [] (ks.zip ws)) (J2.env0.make C [] (ks.zip ws)) (b.to _ [Value.ref (n + 1)] ws J2.kIn rfl (rz.length.symm.trans ln)) (b.rel r1 rz) q1
  show wpAny (model X.prog X.w) X.A (call (.ref C) [] (ks.zip ws)) (EP X pins σ Q) X.xe s2
  refine wpAny_call (make_map (f := f) J.kIn c.mks ini (beq_iff_eq.mp fn) (codeAny_mono run fun o s3 z => ?_))
  match o, z with
  | .error err, z => exact passAt tk σ pins _ _ err s3 J2 z
  | .ok (.ret u), z =>
    obtain ⟨v, H3, J3, rv, ev, q3⟩ := J2.after z
    subst ev
    exact ⟨rv, V.ref (n + 1), H3, J3, rfl, q3⟩
end
section
variable {P : Program} {w : World} {K : PySem.W.Frag} {mg : Str → Option Value} {base : Heap} {k : Nat} {C : Addr} {x qual : Str} {st : Stmt} {N ps ks : List Str} {kws : List (Str × V)} {sp : Sp}
theorem IniK.mak (D : IniK K C qual st kws) (m : mg x = some (.ref C)) (mk : PySem.W.makesIn K C = true) (kp : PySem.W.keepIn K (.ref C) = true) (S : FnScope N ps (defScope st)) (len : ∀ vs H Q E, sp vs H Q E → vs.length = ps.length)
    (ms : List (Str × V)) (g : {α : Type} → List α → List α → List α → List α) (hk : kws ≠ []) (hms : ∀ q ∈ ms, q ∈ kws) (hrel : ∀ {vs mz zs : List V} {us mv ws : List Value}, Vals vs us → Vals mz mv → Vals zs ws → Vals (g vs mz zs) (g us mv ws))
    (hb : ∀ (D : Addr) (doc pm : Value) (an : Option Addr) (cdv ct : Value) (us mv ws : List Value), us.length = 1 → mv.length = ms.length → ws.length = ks.length →
      KwChain D ((ms.map (·.1)).zip mv) (bindArgs (PySem.W.fnOf "__init__" qual (defArgs st) (defBody st) (defScope st) .none (.ref D) doc pm an cdv ct) ⟨us, ks.zip ws⟩) (ps.zip (g us mv ws)))
    (body : ∀ f, BodyX P w K mg base N qual st f k sp) : MakW P w K mg base (L2.CX P w) (k + 1) x C ks (fun vs zs => g vs (ms.map (·.2)) zs) sp :=
  let ⟨f, fd, F, a, i⟩ := D.ex
  let ⟨mv, b⟩ := F.kbinds0 1 ks ms g hk hms hrel hb
  ⟨m, mk, kp, f, fd, ps, _, F.ok S len (body f), a, i, b⟩
end
end Jg
namespace Jg
open PySem PySem.Spec PyProof.Rows L2 PySem.W
/-- data, {} among it -/
def DpX (K : PySem.W.Frag) (H : Hp) (v : V) (d : PyData) : Prop := Dp K H v d ∨ ∃ a, v = .ref a ∧ H a = some (.dK []) ∧ d = .dict []
theorem DpX.reads {X : Cx} {pins : List (Addr × Obj)} {σ : L2.St} {H : Hp} {s : Shared} (I : Inv X pins σ H s) {d : PyData} {v : V} {u : Value} (h : DpX X.K H v d) (r : RelV v u) : ∃ as, Reads s.heap u d as := by
  rcases h with h | ⟨a, rfl, e, rfl⟩
  · exact Dp.reads I d v u h r
  · cases r
    obtain ⟨as, z, _⟩ := dk_nil I.hok e
    exact ⟨as, z⟩
end Jg
namespace Jg
open PySem PySem.Spec PyProof.Rows L2 PySem.W
def tOpS (r : L2.St → R2) (ta tb : TE) : TE := fun σ H Q => ta σ H fun x H1 => tb σ H1 fun y H2 => r σ x y H2 Q
end Jg
namespace Jg
open PySem PySem.Spec PyProof.Rows L2
end Jg
namespace Jg
open PySem PySem.Spec PyProof.Rows L2
def wKey (e : Int × Value) : Str := match e.2 with | .str z _ => z | _ => Str.empty
def IsW (P : Program) (w : World) (e : Int × Value) : Prop := ∃ z tk, e.2 = Value.str z tk ∧ e.1 = (strKind P w).hash z
/-- the set of the texts zs, each once, in any order -/
def SetW (P : Program) (w : World) (h : Heap) (a : Addr) (zs : List Str) : Prop := ∃ o es ep t, h.get? a = some o ∧ o.ExactSet ∧ o.data = .set es ep t ∧ (∀ e ∈ es.toList, IsW P w e) ∧ (es.toList.map wKey).Perm zs ∧ zs.Nodup ∧ zs.length < scanBound ∧
  t.fits es.size = true ∧ Ris t.place.toList ∧ (w.params.followText "set-order" = true ∨ t.led = true)
section
variable {P : Program} {w : World} {h h' : Heap} {a : Addr} {zs : List Str}
theorem SetW.move (R : SetW P w h a zs) (k : ∀ o, h.get? a = some o → h'.get? a = some o) : SetW P w h' a zs :=
  let ⟨o, es, ep, t, ho, r⟩ := R
  ⟨o, es, ep, t, k o ho, r⟩
theorem SetW.cast {ys : List Str} (R : SetW P w h a zs) (e : zs = ys) : SetW P w h a ys := e ▸ R
theorem isW_key {e : Int × Value} (g : IsW P w e) (z : Str) : (strKind P w).is z e.2 = true ↔ wKey e = z := by
  obtain ⟨y, tk, e2, _⟩ := g
  have e3 : wKey e = y := by unfold wKey; rw [e2]
  rw [e3, e2]
  constructor
  · exact fun q => (strKind P w).inj _ _ _ (strKind_is P w y tk) q
  · intro q
    rw [← q]
    exact strKind_is P w y tk
theorem isW_elems {l : List (Int × Value)} (g : ∀ e ∈ l, IsW P w e) : ElemsOf (strKind P w) l := fun e he =>
  let ⟨z, tk, e1, e2⟩ := g e he
  ⟨⟨z, e1 ▸ strKind_is P w z tk, e2⟩, by rw [e1]; rfl⟩
end
section
variable {P : Program} {w : World} {A : Around} {E : Value → Shared → Prop} {s : Shared} {a : Addr} {zs : List Str}
/-- the entries are laid, the table may grow -/
theorem setW_lay {f : Bool → Sem Unit} (pf : ∀ (b : Bool) (s1 : Shared) (K : Unit → Shared → Prop), K () s1 → wpAny (model P w) A (f b) K E s1) {o : Obj} {es xs : Array (Int × Value)} {ep : Nat} {t t2 : SetTable} {ys : List Str} (at_ : s.heap.get? a = some o) (ex : o.ExactSet)
    (dt : o.data = .set es ep t) (gd : ∀ e ∈ xs.toList, IsW P w e) (pm : (xs.toList.map wKey).Perm ys) (nd : ys.Nodup) (few : ys.length < scanBound) (ft : t2.fits xs.size = true) (ri : Ris t2.place.toList) (ld : w.params.followText "set-order" = true ∨ t2.led = true) {dum : Bool}
    {R : Option Bool → Shared → Prop} (k : ∀ h', Heap.SameBut a s.heap h' → SetW P w h' a ys → R (some true) { s with heap := h' }) :
    wpAny (model P w) A (do
        storeSet a xs t2
        if (!dum && t2.tooFull) = true then do
            f (relayAll t2 xs (SetTable.grown xs.size)).2.2
            storeSet a (relayAll t2 xs (SetTable.grown xs.size)).1 (relayAll t2 xs (SetTable.grown xs.size)).2.1
            pure (some true)
          else pure (some true)) R E s := by
  have many : ∀ u : Array (Int × Value), (u.toList.map wKey).Perm ys → u.size < scanBound := fun u q => by
    have z := q.length_eq
    rw [List.length_map, Array.length_toList] at z
    omega
  refine wpAny_bind (wpAny_storeSet_of at_ dt ?_ (fits_of_scanBound (many xs pm)))
  have w1 := store_at (es' := xs) (t' := t2) at_ dt
  have same1 := Heap.SameBut.update s.heap a (Obj.putSet xs t2)
  split
  · have q1 := relayAll_perm t2 xs (SetTable.grown xs.size)
    have q2 := relayAll_fits t2 xs (SetTable.grown xs.size)
    have q3 := relayAll_ris t2 xs (SetTable.grown xs.size)
    have q4 := relayAll_led t2 xs (SetTable.grown xs.size)
    revert q1 q2 q3 q4
    generalize relayAll t2 xs (SetTable.grown xs.size) = Y
    obtain ⟨us, t3, gv⟩ := Y
    intro q1 q2 q3 q4
    have pm2 : (us.toList.map wKey).Perm ys := (q1.map wKey).trans pm
    refine wpAny_bind (pf _ _ _ (wpAny_bind (wpAny_storeSet_of w1 rfl ?_ (fits_of_scanBound (many us pm2)))))
    refine wpAny_pure (k _ (same1.trans (Heap.SameBut.update _ a _)) ⟨_, us, _, t3, store_at (es' := us) (t' := t3) w1 rfl, ex, rfl, fun e he => gd e (q1.mem_iff.mp he), pm2, nd, few, q2, q3, ?_⟩)
    rcases ld with l | l
    · exact .inl l
    · exact .inr (by rw [← l]; exact q4)
  · exact wpAny_pure (k _ same1 ⟨_, xs, _, t2, w1, ex, rfl, gd, pm, nd, few, ft, ri, ld⟩)
theorem setW_add {z : Str} {tk : Tok} {Q : Bool → Shared → Prop} (R : SetW P w s.heap a zs) (room : zs.length + 1 < scanBound) (k : ∀ b h', Heap.SameBut a s.heap h' → SetW P w h' a (if z ∈ zs then zs else z :: zs) → Q b { s with heap := h' }) :
    wpAny (model P w) A (setAddHashed a (.str z tk) ((strKind P w).hash z)) Q E s := by
  obtain ⟨o, es, ep, t, at_, ex, dt, gd, pm, nd, few, ft, ri, ld⟩ := id R
  have el := isW_elems gd
  have small : es.size < scanBound := by
    have q := pm.length_eq
    rw [List.length_map, Array.length_toList] at q
    omega
  have sc : (Value.str z tk).scannable = true := rfl
  have isz : (strKind P w).is z (.str z tk) = true := strKind_is P w z tk
  unfold setAddHashed setAddHashedIn
  refine wpAny_holding (wpAny_bind (wpAny_setState_of at_ dt ft ?_))
  dsimp only
  rw [byScan_of sc small el]
  simp only [↓reduceIte]
  unfold setAddByScan
  refine wpAny_bind (wpAny_bind (wpAny_rule (wpAny_bind (wpAny_setScan_of isz at_ dt ft el ?_))))
  cases fi : List.findIdx? (fun e => (strKind P w).is z e.2) es.toList with
  | some j =>
    dsimp only
    obtain ⟨lt, yes, _⟩ := List.findIdx?_eq_some_iff_getElem.mp fi
    have mem : z ∈ zs := pm.mem_iff.mp (List.mem_map.mpr ⟨_, List.getElem_mem lt, (isW_key (gd _ (List.getElem_mem lt)) z).mp yes⟩)
    exact wpAny_pure (wpAny_pure (k _ s.heap (Heap.SameBut.refl a s.heap) (R.cast (if_pos mem).symm)))
  | none =>
    dsimp only
    have out : z ∉ zs := fun m => by
      obtain ⟨e, he, q⟩ := List.mem_map.mp (pm.mem_iff.mpr m)
      have c := List.findIdx?_eq_none_iff.mp fi e he
      rw [(isW_key (gd e he) z).mpr q] at c
      cases c
    rw [if_neg out] at k
    have q1 := layNew_perm t es ((strKind P w).hash z) (.str z tk)
    have q2 := layNew_fits t es ((strKind P w).hash z) (.str z tk)
    have q3 := layNew_ris t es ((strKind P w).hash z) (.str z tk) ri
    have q4 := layNew_led t es ((strKind P w).hash z) (.str z tk)
    revert q1 q2 q3 q4
    generalize layNew t es ((strKind P w).hash z) (.str z tk) = Y
    obtain ⟨xs, t1, dum, gv⟩ := Y
    intro q1 q2 q3 q4
    have pc : xs.toList.Perm (((strKind P w).hash z, Value.str z tk) :: es.toList) := by
      have q := q1
      rw [Array.toList_push] at q
      exact q.trans (List.perm_append_singleton _ _)
    have pz : (xs.toList.map wKey).Perm (z :: zs) := (pc.map wKey).trans (List.Perm.cons z pm)
    have gd2 : ∀ e ∈ xs.toList, IsW P w e := fun e he => (List.mem_cons.mp (pc.mem_iff.mp he)).elim (fun q => q ▸ ⟨z, tk, rfl, rfl⟩) (gd e)
    have ld2 : w.params.followText "set-order" = true ∨ t1.led = true := ld.elim .inl fun l => .inr (by rw [← l]; exact q4)
    have few2 : (z :: zs).length < scanBound := room
    refine wpAny_bind ?_
    refine (fun (m : ∀ {K : Unit → Shared → Prop}, K () s → wpAny (model P w) A _ K E s) (r : _) => m r) (fun q => by cases gv <;> first | exact wpAny_pure q | exact wpAny_rule q) ?_
    split
    · refine wpAny_bind ?_
      rw [hashByValue_scannable 8 sc]
      refine wpAny_pure (setW_lay (fun b s1 K q => by cases b <;> first | exact wpAny_pure q | exact wpAny_rule q) at_ ex dt gd2 pz (List.nodup_cons.mpr ⟨out, nd⟩) few2 ?_ ?_ ?_ fun h' sb r => wpAny_pure (k _ h' sb r))
      · first | (split <;> first | exact q2 | exact SetTable.fits_plain_off q2) | exact q2
      · first | (split <;> exact q3) | exact q3
      · first | (split <;> exact ld2) | exact ld2
    · refine wpAny_bind (wpAny_pure ?_)
      simp only [↓reduceIte]
      exact setW_lay (fun b s1 K q => by cases b <;> first | exact wpAny_pure q | exact wpAny_rule q) at_ ex dt gd2 pz (List.nodup_cons.mpr ⟨out, nd⟩) few2 q2 q3 ld2 fun h' sb r => wpAny_pure (k _ h' sb r)
end
theorem addW_len (l : List Str) (z : Str) : (addW l z).length ≤ l.length + 1 := by
  unfold addW
  split
  · omega
  · exact Nat.le_refl _
theorem fold_len : ∀ (ks l : List Str), (ks.foldl addW l).length ≤ l.length + ks.length
  | [], l => Nat.le_refl _
  | z :: r, l => by
    have h1 := fold_len r (addW l z)
    have h2 := addW_len l z
    rw [List.foldl_cons, List.length_cons]
    omega
theorem onceW_len (ks : List Str) : (onceW ks).length ≤ ks.length := by
  have h := fold_len ks []
  rw [List.length_nil, Nat.zero_add] at h
  exact h
theorem fold_mem : ∀ (ks l : List Str) (z : Str), z ∈ ks.foldl addW l ↔ z ∈ l ∨ z ∈ ks
  | [], l, z => by simp
  | y :: r, l, z => by
    rw [List.foldl_cons, fold_mem r]
    unfold addW
    by_cases m : y ∈ l
    · rw [if_pos m, List.mem_cons]
      constructor
      · exact fun q => q.elim .inl fun q => .inr (.inr q)
      · rintro (q | q | q)
        · exact .inl q
        · exact .inl (q ▸ m)
        · exact .inr q
    · rw [if_neg m, List.mem_cons, List.mem_cons]
      constructor
      · rintro ((q | q) | q)
        · exact .inr (.inl q)
        · exact .inl q
        · exact .inr (.inr q)
      · rintro (q | q | q)
        · exact .inl (.inr q)
        · exact .inl (.inl q)
        · exact .inr q
theorem onceW_mem {ks : List Str} {z : Str} : z ∈ onceW ks ↔ z ∈ ks := by
  unfold onceW
  rw [fold_mem]
  simp
theorem onceW_nodup : ∀ (ks l : List Str), l.Nodup → (ks.foldl addW l).Nodup
  | [], _, h => h
  | z :: r, l, h => by
    rw [List.foldl_cons]
    refine onceW_nodup r _ ?_
    unfold addW
    split
    · exact h
    · exact List.nodup_cons.mpr ⟨by assumption, h⟩
/-- as many as there are texts: just if all are different -/
theorem onceW_all : ∀ (ks l : List Str), (ks.foldl addW l).length = l.length + ks.length ↔ ks.Nodup ∧ ∀ z ∈ ks, z ∉ l
  | [], l => ⟨fun _ => ⟨List.Pairwise.nil, fun _ h => nomatch h⟩, fun _ => rfl⟩
  | z :: r, l => by
    have ih := onceW_all r (addW l z)
    have le := fold_len r (addW l z)
    rw [List.foldl_cons, List.length_cons, List.nodup_cons]
    unfold addW at ih le ⊢
    by_cases m : z ∈ l
    · rw [if_pos m] at le ⊢
      constructor
      · intro h; omega
      · intro h
        exact absurd m (h.2 z List.mem_cons_self)
    · rw [if_neg m] at ih le ⊢
      rw [List.length_cons] at ih le
      constructor
      · intro h
        obtain ⟨n, o⟩ := ih.mp (by omega)
        refine ⟨⟨fun q => o z q List.mem_cons_self, n⟩, fun y hy => ?_⟩
        rcases List.mem_cons.mp hy with e | e
        · rw [e]; exact m
        · exact fun q => o y e (List.mem_cons_of_mem _ q)
      · rintro ⟨⟨n1, n2⟩, o⟩
        have := ih.mpr ⟨n2, fun y hy q => (List.mem_cons.mp q).elim (fun e => n1 (e ▸ hy)) (o y (List.mem_cons_of_mem _ hy))⟩
        omega
section
variable {P : Program} {w : World} {A : Around} {E : Value → Shared → Prop} {s : Shared}
theorem setW_new {h : Heap} {a : Addr} (e : h.get? a = some (mtSet w)) : SetW P w h a [] :=
  ⟨_, #[], 0, _, e, ⟨rfl, rfl, rfl⟩, rfl, (fun _ q => absurd q (by simp)), List.Perm.nil, List.Pairwise.nil, by decide, by rfl, List.Pairwise.nil, by
    show _ ∨ (!w.params.followText "set-order") = true
    cases w.params.followText "set-order" with
    | true => exact .inl rfl
    | false => exact .inr rfl⟩
/-- the loop behind set(x), over texts -/
theorem words_loop {it st : Addr} {fp wr : List Addr} {G : Array GenState → Array GenState → Prop} {m : Nat} {Pv : Nat → Value → Prop} {At : Nat → Shared → Prop} {R : Result → Shared → Prop} (T : WalksS P w A.in1 it fp wr G m Pv At) (off : st ∉ fp) (ks : List Str) (em : m = ks.length)
    (few : ks.length + 1 < scanBound) (vals : ∀ i v, Pv i v → ∃ z t, ks[i]? = some z ∧ v = .str z t) :
    ∀ (left i : Nat) (s : Shared), m - i = left → i ≤ m → At i s → SetW P w s.heap st (onceW (ks.take i)) → (∀ q, Moved (st :: wr) G s q → SetW P w q.heap st (onceW ks) → R (.ok (.ret .none)) q) →
      codeAny (model P w) A (.builtin "set.update.loop" ⟨[.ref st, .ref it], []⟩) R s := by
  have offw : st ∉ wr := fun z => off (T.sub _ z)
  have up : ∀ b ∈ wr, b ∈ st :: wr := fun _ z => List.mem_cons_of_mem _ z
  intro left
  induction left with
  | zero =>
    intro i s e le at_ W k
    obtain rfl : i = m := by omega
    refine codeAny_builtin F.entry_set_update_loop ?_
    rw [Around.under_plainId F.plain_set_update_loop _]
    refine wpAny_bind (m := pyNext (.ref it)) (T.done s _ _ at_ fun q mv => ?_)
    have all : ks.take i = ks := List.take_of_length_le (by omega)
    rw [all] at W
    exact wpAny_pure (k q (mv.mono up) (W.move fun o e => mv.heap st o offw e))
  | succ left ih =>
    intro i s e le at_ W k
    have lt : i < m := by omega
    refine codeAny_builtin F.entry_set_update_loop ?_
    rw [Around.under_plainId F.plain_set_update_loop _]
    refine wpAny_bind (m := pyNext (.ref it)) (T.item i s _ _ lt at_ fun v q pv at2 mv => ?_)
    obtain ⟨z, t, ez, rfl⟩ := vals i v pv
    have W2 : SetW P w q.heap st (onceW (ks.take i)) := W.move fun o e => mv.heap st o offw e
    refine wpAny_bind (m := holding [Value.str z t] (setAdd st (.str z t))) (wpAny_holding ?_)
    unfold setAdd
    refine wpAny_holding (wpAny_bind ((strKind P w).pyHash (k := z) (strKind_is _ _ _ _) ?_))
    have room : (onceW (ks.take i)).length + 1 < scanBound := by
      have h1 := onceW_len (ks.take i)
      rw [List.length_take] at h1
      omega
    refine setW_add (s := { q with toks := q.toks + 1 }) W2 room fun b h2 sb W3 => ?_
    have nx : (if z ∈ onceW (ks.take i) then onceW (ks.take i) else z :: onceW (ks.take i)) = onceW (ks.take (i + 1)) := by
      have e1 : ks.take (i + 1) = ks.take i ++ [z] := by rw [List.take_add_one, ez]; rfl
      rw [e1]
      unfold onceW
      rw [List.foldl_append]
      rfl
    rw [nx] at W3
    have still : ∀ c, c ≠ st → ∀ o, q.heap.get? c = some o → h2.get? c = some o := fun c n o e => by rw [sb.2 c n]; exact e
    refine wpAny_pure ⟨plainId_quiet F.plain_set_update_loop _, ih (i + 1) _ (by omega) lt (T.frame _ q _ _ at2 (Nat.le_succ _) fun c hc o e => still c (fun n => off (n ▸ hc)) o e) W3 fun y mv2 Wy => k y ?_ Wy⟩
    exact Moved.trans T.gtrans ((mv.mono up).then_heap (Nat.le_succ _) fun c o hc e => still c (fun n => hc (n ▸ List.mem_cons_self)) o e) mv2
end
section
variable {P : Program} {w : World} {A : Around} {E : Value → Shared → Prop} {s : Shared}
/-- what stands behind set(x) of texts -/
abbrev WordsDone (P : Program) (w : World) (s : Shared) (ks : List Str) (s₂ : Shared) : Prop :=
  ∃ h' tk, s₂ = { s with heap := h', toks := tk } ∧ SetW P w h' s.heap.objs.size (onceW ks) ∧ ∀ b o, s.heap.get? b = some o → h'.get? b = some o
set_option maxHeartbeats 8000000 in
theorem set_of_words {l : Addr} {items : Array Value} (ks : List Str) {Q : Value → Shared → Prop} (hh : A.handled = none) (hl : s.heap.IsList l items) (hsz : items.size = ks.length) (hit : ∀ (i : Nat) (v : Value), items[i]? = some v → ∃ z t, ks[i]? = some z ∧ v = .str z t) (hb : ks.length + 1 < scanBound)
    (h : ∀ s₂, WordsDone P w s ks s₂ → Q (.ref s.heap.objs.size) s₂) : wpAny (model P w) A (call (.type "set") [.ref l]) Q E s := by
  obtain ⟨c, tl, hmro⟩ := F.called_set.mro
  have m1 := F.called_set.made
  have m2 := F.called_set.sub
  have m3 := F.called_set.notType
  have m4 := F.called_set.canCreate
  have m5 := F.typeCall_set_1 (.ref l)
  refine wpAny_call (codeAny_of_tree (show wpAny _ _ (callAny (.type "set") _) _ _ _ from wpAny_pure ⟨Code.quiet_builtin _ (by decide +kernel), codeAny_builtin F.entry_type_call ?_⟩))
  rw [Around.under_plain (weight_type_call_type "set" [.ref l] []) rfl]
  repeat (any_goals (first | assumption | wp_step))
  refine codeAny_mono (code_set_led1 (.ref l) (E := E) (Q₁ := fun obj s₁ => obj = .ref s.heap.objs.size ∧ s₁ = { s with heap := s.heap.push (mtSet w) }) ⟨rfl, rfl⟩) fun r s₁ hr => ?_
  match r, hr with
  | .error e, hr => exact hr
  | .ok (.ret obj), hr =>
    obtain ⟨rfl, rfl⟩ := hr
    have new := mt_at w s.heap
    have ty : Shared.TypeIs { s with heap := s.heap.push (mtSet w) } (.ref s.heap.objs.size) "set" := ⟨_, new, rfl⟩
    have m6 := F.called_set.init.lookup
    have m7 := F.called_set.init.bind (.ref s.heap.objs.size)
    repeat (any_goals (first | assumption | wp_step))
    refine codeAny_mono (codeAny_call_builtin (R := wants (fun r s₂ => r = .none ∧ WordsDone P w s ks s₂) E) F.called_set.init.plain F.entry_set_init (check_set_init_1 ty ?_)) fun r₂ s₂ hr₂ => ?_
    · obtain ⟨⟨ocls, odict, odata, oslots⟩, hol, hcl, nl, hdl⟩ := hl
      simp only at hcl hdl
      subst hcl; subst hdl
      have lt : l < s.heap.objs.size := Heap.lt_size hol
      have old : (s.heap.push (mtSet w)).get? l = some { cls := .type "list", dict := odict, data := .seq items nl, slots := oslots } := Heap.get?_push_of_some _ hol
      have il : (s.heap.push (mtSet w)).IsList l items := ⟨_, old, rfl, nl, rfl⟩
      have n1 := F.sub_list_set
      have n2 := F.sub_list_frozenset
      have n3 : (Value.type "list" == Value.type "dict") = false := by decide
      have sz : (s.heap.push (mtSet w)).objs.size = s.heap.objs.size + 1 := Heap.size_push ..
      unfold Builtin.«set.__init__» noKeywords Builtin.Frozenset.updateFrom
      generalize hPI : pyIter = PI
      wp_walk
      subst hPI
      refine wpAny_pyIter_list il (wpAny_bind (wpAny_runValue ?_))
      have apart : l ≠ (s.heap.push (mtSet w)).objs.size := by rw [sz]; exact Nat.ne_of_lt (Nat.lt_succ_of_lt lt)
      refine words_loop (P := P) (w := w) ((Walks.list (show A.in1.in1.in1.handled = none by simp [hh]) _ l apart items).toS) (st := s.heap.objs.size) ?_ ks hsz hb hit (items.size - 0) 0 _ (by omega) (Nat.zero_le _)
        ⟨⟨_, Heap.get?_push_size _ rfl, rfl, rfl⟩, il.push _⟩ (setW_new (Heap.get?_push_of_some _ new)) fun s' hm hS' => ?_
      · rw [sz]
        intro z
        rcases List.mem_cons.mp z with z | z
        · exact absurd z (Nat.ne_of_lt (Nat.lt_succ_self _))
        · rcases List.mem_cons.mp z with z | z
          · exact absurd z (Nat.ne_of_gt lt)
          · cases z
      · obtain ⟨h', g2, d', tk', os'⟩ := s'
        obtain rfl : g2 = s.gens := hm.gens
        obtain rfl : d' = s.drawn := hm.drawn
        obtain rfl : os' = s.os := hm.os
        refine wpAny_pure (show wpAny _ _ (ret Value.none) _ _ _ from wpAny_pure ⟨rfl, h', tk', rfl, hS', fun b o e => ?_⟩)
        have lb : b < s.heap.objs.size := Heap.lt_size e
        refine hm.heap b o (fun z => ?_) (Heap.get?_push_of_some _ (Heap.get?_push_of_some _ e))
        rcases List.mem_cons.mp z with z | z
        · exact absurd z (Nat.ne_of_lt lb)
        · rcases List.mem_cons.mp z with z | z
          · rw [sz] at z
            exact absurd z (Nat.ne_of_lt (Nat.lt_succ_of_lt lb))
          · cases z
    · match r₂, hr₂ with
      | .error e, hr₂ => exact hr₂
      | .ok (.ret r), hr₂ =>
        obtain ⟨rfl, done⟩ := hr₂
        repeat (any_goals (first | assumption | wp_step))
        exact h _ done
end
end Jg
namespace Jg
open PySem PySem.Spec PyProof.Rows L2
/-- the set of the texts zs at a -/
def SetWO (P : Program) (w : World) (a : Addr) (zs : List Str) : HO := .ext fun h => SetW P w h a zs
theorem setW_ok {w : World} {P : Program} {H : Hp} {h : Heap} {a : Addr} {zs : List Str} (R : SetW P w h a zs) : ObjOk P w H h a (SetWO P w a zs) := by
  have ⟨o, _, _, _, ho, _⟩ := R
  exact ⟨R, ⟨o, ho⟩, fun h1 h2 p k => SetW.move p k⟩
section
variable {X : Cx}
theorem setW_get {pins : List (Addr × Obj)} {σ : L2.St} {H : Hp} {s : Shared} {a : Addr} {zs : List Str} (I : Inv X pins σ H s) (e : H a = some (SetWO X.prog X.w a zs)) : SetW X.prog X.w s.heap a zs := (I.hok a _ e).1
/-- set(xs) of a list of texts -/
def rSetW (X : Cx) : List V → Hp → VK → Prop := fun xs H Q => ∃ (a : Addr) (ks : List Str), xs = [.ref a] ∧ SqL X.K H a (ks.map V.str) ∧ ks.length + 1 < scanBound ∧ ∀ p, H p = none → Q (.ref p) (upd H p (SetWO X.prog X.w p (onceW ks)))
theorem strs_at {ks : List Str} : ∀ {us : List Value}, Vals (ks.map V.str) us → us.length = ks.length ∧ ∀ (i : Nat) (v : Value), us[i]? = some v → ∃ z t, ks[i]? = some z ∧ v = .str z t := by
  induction ks with
  | nil =>
    intro us r
    cases r
    exact ⟨rfl, fun i v h => by simp at h⟩
  | cons z ks ih =>
    intro us r
    rw [List.map_cons] at r
    cases r with
    | cons r1 r2 =>
      obtain ⟨t, e⟩ := r1
      obtain ⟨h1, h2⟩ := ih r2
      refine ⟨by rw [List.length_cons, List.length_cons, h1], fun i v h => ?_⟩
      cases i with
      | zero => exact ⟨z, t, rfl, by rw [← e]; exact (Option.some.inj h).symm⟩
      | succ i => exact h2 i v h
theorem cr_setW (hc : X.calm = true) : CallR X (.type "set") (rSetW X) := by
  intro pins s σ H xs us Q I r h
  obtain ⟨a, ks, rfl, hs, few, q⟩ := h
  obtain ⟨u, rfl, ru⟩ := vals1 r
  cases ru
  obtain ⟨its, rv, p, _⟩ := I.list hs
  obtain ⟨ln, at_⟩ := strs_at rv
  refine set_of_words ks (I.ok.hd hc) p.isList (by simpa using ln) (fun i v h => at_ i v (by simpa using h)) few fun s₂ ⟨h', tk, e, R, k⟩ => ?_
  subst e
  exact ⟨.ref s.heap.objs.size, _, I.laid (t' := tk) k (Nat.le_refl _) (setW_ok R), rfl, q _ (I.hok.fresh (Nat.le_refl _))⟩
end
section
variable {P : Program} {w : World} {A : Around} {E : Value → Shared → Prop} {s : Shared} {a : Addr} {zs : List Str}
theorem strs_of : ∀ l : List Value, (∀ v ∈ l, ∃ z t, v = Value.str z t) → ∃ ys : List Str, StrsAre l ys ∧ ∀ f : Value → Str, (∀ z t, f (.str z t) = z) → l.map f = ys
  | [], _ => ⟨[], .nil, fun _ _ => rfl⟩
  | v :: l, h => by
    obtain ⟨z, t, e⟩ := h v List.mem_cons_self
    obtain ⟨ys, h1, h2⟩ := strs_of l fun u hu => h u (List.mem_cons_of_mem _ hu)
    subst e
    exact ⟨z :: ys, .cons z t h1, fun f hf => by rw [List.map_cons, hf, h2 f hf]⟩
def txtOf (v : Value) : Str := match v with | .str z _ => z | _ => Str.empty
theorem sorted_words {Q : Value → Shared → Prop} (R : SetW P w s.heap a zs) (hh : A.handled = none) (few : zs.length < 64)
    (k : ∀ s' p (out : Array Value) (c : Nat) (ys : List Str), (∀ b o, s.heap.get? b = some o → s'.heap.get? b = some o) → s'.gens = s.gens → s'.os = s.os → s.heap.objs.size ≤ p → s'.heap.get? p = some (seqObj "list" out c) → StrsAre out.toList ys → ys.Perm zs → sortedS ys = true → Q (.ref p) s') :
    wpAny (model P w) A (call (.builtin "sorted") [.ref a]) Q E s := by
  obtain ⟨o, es, ep, t, at_, ex, dt, gd, pm, nd, fw, ft, ri, ld⟩ := R
  have small : es.size = zs.length := by
    have q := pm.length_eq
    rw [List.length_map, Array.length_toList] at q
    exact q
  refine Calls.call_function_entry kind_sorted plain_sorted entry_sorted (args_sorted1 _) ?_
  unfold Builtin.«sorted»
  refine wpAny_bind (m := checkCount "sorted" 1 1 _) (wpAny_pure (wpAny_bind (collect_set (A := A.in1) hh ⟨o, at_, ex.1, dt⟩ ft (by rw [small]; exact fw) ri ld fun s1 vs k1 up g1 o1 perm => ?_)))
  have len : vs.length = zs.length := by rw [perm.length_eq, List.length_map, Array.length_toList, small]
  obtain ⟨ys, sa, ym⟩ := strs_of vs fun v hv => by
    obtain ⟨e, he, q⟩ := List.mem_map.mp (perm.mem_iff.mp hv)
    obtain ⟨z, tk, e1, _⟩ := gd e he
    exact ⟨z, tk, by rw [← q]; exact e1⟩
  have py : ys.Perm zs := by
    have q := perm.map txtOf
    rw [ym txtOf fun _ _ => rfl, List.map_map] at q
    exact q.trans pm
  refine wpAny_bind (wpAny_newList ?_ (by rw [len, sizeLine_eq]; omega))
  have new : (s1.heap.push (seqObj "list" vs.toArray 0)).get? s1.heap.objs.size = some (seqObj "list" vs.toArray 0) := Heap.get?_push_size _ rfl
  refine wpAny_bind (wpAny_holding (wpAny_call_entry slot_list_sort ⟨_, new, rfl⟩ entry_list_sort
    (list_sort_treeK strKind_oneLt new sa.keysOf (fun v₁ v₂ rest e => keyKind_strs (by rw [← e]; exact sa)) (by rw [len]; exact few) fun st' hp hs => ⟨_, rfl, ?_⟩) (args_list_sort _)))
  obtain ⟨ss, g2, g3, g4⟩ := sorted_out_str sa hp hs
  obtain ⟨c, hc⟩ := sortedHeap_at (vs := vs) (out := (arrOf st').map (·.2)) new
  refine wpAny_pure ⟨_, rfl, k _ s1.heap.objs.size _ c ss (fun b u e => ?_) g1 o1 up hc g2 (g3.trans py) g4⟩
  have q := k1 b u e
  have lt := Heap.lt_size q
  show (sortedHeap (s1.heap.push (seqObj "list" vs.toArray 0)) s1.heap.objs.size vs _).get? b = some u
  rw [sortedHeap_old (Nat.ne_of_lt lt) (by rw [Heap.size_push]; exact Nat.lt_succ_of_lt lt)]
  exact Heap.get?_push_of_some _ q
end
/-- sorted(words) of a set -/
def rSortW (X : Cx) : List V → Hp → VK → Prop := fun vs H Q => ∃ (a : Addr) (zs : List Str), vs = [V.ref a] ∧ H a = some (SetWO X.prog X.w a zs) ∧ zs.length < 64 ∧ ∀ (ys : List Str) (p : Addr), ys.Perm zs → sortedS ys = true → H p = none → Q (.ref p) (upd H p (.lst (ys.map V.str)))
theorem cr_sortW {X : Cx} (hc : X.calm = true) : CallR X (.builtin "sorted") (rSortW X) := by
  intro pins s σ H vs us Q I r h
  obtain ⟨a, zs, rfl, ha, few, q⟩ := h
  have R := setW_get I ha
  rw [Vals.ref1 r]
  refine sorted_words R (I.ok.hd hc) few fun s' p out c ys k g o up e sa pm so => ?_
  have len : (ys.map V.str).length ≤ sizeLine := by rw [List.length_map, pm.length_eq, sizeLine_eq]; omega
  have nw : H p = none := I.hok.fresh up
  have J : Inv X pins σ (upd H p (.lst (ys.map V.str))) { s with heap := s'.heap, gens := s'.gens, drawn := s'.drawn, toks := s'.toks } :=
    I.call (ch := []) (Un.laid k up nw) (I.hok.laid k up ⟨len, out.toList, c, vals_of_strs sa, e⟩) (by rw [g]; exact I.bare) fun _ z => nomatch z
  have es : s' = { s with heap := s'.heap, gens := s'.gens, drawn := s'.drawn, toks := s'.toks } := by
    cases s'
    cases s
    cases o
    rfl
  rw [es]
  exact ⟨.ref p, _, J, rfl, q ys p pm so nw⟩
/-- len of a set of texts -/
def rLenW (X : Cx) : List V → Hp → VK → Prop := fun xs H Q => ∃ (a : Addr) (zs : List Str), xs = [.ref a] ∧ H a = some (SetWO X.prog X.w a zs) ∧ Q (.int zs.length) H
theorem call_lenW {X : Cx} : CallR X (.builtin "len") (rLenW X) := by
  intro pins s σ H xs us Q I r h
  obtain ⟨a, zs, rfl, ha, q⟩ := h
  rw [Vals.ref1 r]
  obtain ⟨o, es, ep, t, at_, ex, dt, gd, pm, nd, fw, ft, _⟩ := setW_get I ha
  have n : es.size = zs.length := by
    have z := pm.length_eq
    rw [List.length_map, Array.length_toList] at z
    exact z
  have small : scanBound < 2 ^ 62 := by decide
  have e : ((es.size : Nat) : Int) = ((zs.length : Nat) : Int) := by rw [n]
  exact PySem.call_len_set at_ ex dt ft (by rw [n]; omega) (e ▸ ⟨.int zs.length, H, I.tok _, ⟨_, rfl⟩, q⟩)
end Jg
namespace Jg
open PySem PySem.Spec PyProof.Rows L2
section
variable {P : Program} {w : World} {A : Around} {E : Value → Shared → Prop} {s : Shared}
set_option maxHeartbeats 8000000 in
theorem set_of_wordsT {l : Addr} {items : Array Value} (ks : List Str) {Q : Value → Shared → Prop} (hh : A.handled = none) (hl : s.heap.IsTuple l items) (hsz : items.size = ks.length) (hit : ∀ (i : Nat) (v : Value), items[i]? = some v → ∃ z t, ks[i]? = some z ∧ v = .str z t) (hb : ks.length + 1 < scanBound)
    (h : ∀ s₂, WordsDone P w s ks s₂ → Q (.ref s.heap.objs.size) s₂) : wpAny (model P w) A (call (.type "set") [.ref l]) Q E s := by
  obtain ⟨c, tl, hmro⟩ := F.called_set.mro
  have m1 := F.called_set.made
  have m2 := F.called_set.sub
  have m3 := F.called_set.notType
  have m4 := F.called_set.canCreate
  have m5 := F.typeCall_set_1 (.ref l)
  refine wpAny_call (codeAny_of_tree (show wpAny _ _ (callAny (.type "set") _) _ _ _ from wpAny_pure ⟨Code.quiet_builtin _ (by decide +kernel), codeAny_builtin F.entry_type_call ?_⟩))
  rw [Around.under_plain (weight_type_call_type "set" [.ref l] []) rfl]
  repeat (any_goals (first | assumption | wp_step))
  refine codeAny_mono (code_set_led1 (.ref l) (E := E) (Q₁ := fun obj s₁ => obj = .ref s.heap.objs.size ∧ s₁ = { s with heap := s.heap.push (mtSet w) }) ⟨rfl, rfl⟩) fun r s₁ hr => ?_
  match r, hr with
  | .error e, hr => exact hr
  | .ok (.ret obj), hr =>
    obtain ⟨rfl, rfl⟩ := hr
    have new := mt_at w s.heap
    have ty : Shared.TypeIs { s with heap := s.heap.push (mtSet w) } (.ref s.heap.objs.size) "set" := ⟨_, new, rfl⟩
    have m6 := F.called_set.init.lookup
    have m7 := F.called_set.init.bind (.ref s.heap.objs.size)
    repeat (any_goals (first | assumption | wp_step))
    refine codeAny_mono (codeAny_call_builtin (R := wants (fun r s₂ => r = .none ∧ WordsDone P w s ks s₂) E) F.called_set.init.plain F.entry_set_init (check_set_init_1 ty ?_)) fun r₂ s₂ hr₂ => ?_
    · obtain ⟨⟨ocls, odict, odata, oslots⟩, hol, hcl, nl, hdl⟩ := hl
      simp only at hcl hdl
      subst hcl; subst hdl
      have lt : l < s.heap.objs.size := Heap.lt_size hol
      have old : (s.heap.push (mtSet w)).get? l = some { cls := .type "tuple", dict := odict, data := .seq items nl, slots := oslots } := Heap.get?_push_of_some _ hol
      have il : (s.heap.push (mtSet w)).IsTuple l items := ⟨_, old, rfl, nl, rfl⟩
      have n1 := F.sub_tuple_set
      have n2 := F.sub_tuple_frozenset
      have n3 : (Value.type "tuple" == Value.type "dict") = false := by decide
      have sz : (s.heap.push (mtSet w)).objs.size = s.heap.objs.size + 1 := Heap.size_push ..
      unfold Builtin.«set.__init__» noKeywords Builtin.Frozenset.updateFrom
      generalize hPI : pyIter = PI
      wp_walk
      subst hPI
      refine wpAny_pyIter_tuple il (wpAny_bind (wpAny_runValue ?_))
      have apart : l ≠ (s.heap.push (mtSet w)).objs.size := by rw [sz]; exact Nat.ne_of_lt (Nat.lt_succ_of_lt lt)
      refine words_loop (P := P) (w := w) ((Walks.tuple (show A.in1.in1.in1.handled = none by simp [hh]) _ l apart items).toS) (st := s.heap.objs.size) ?_ ks hsz hb hit (items.size - 0) 0 _ (by omega) (Nat.zero_le _)
        ⟨⟨_, Heap.get?_push_size _ rfl, rfl, rfl⟩, il.push _⟩ (setW_new (Heap.get?_push_of_some _ new)) fun s' hm hS' => ?_
      · rw [sz]
        intro z
        rcases List.mem_cons.mp z with z | z
        · exact absurd z (Nat.ne_of_lt (Nat.lt_succ_self _))
        · rcases List.mem_cons.mp z with z | z
          · exact absurd z (Nat.ne_of_gt lt)
          · cases z
      · obtain ⟨h', g2, d', tk', os'⟩ := s'
        obtain rfl : g2 = s.gens := hm.gens
        obtain rfl : d' = s.drawn := hm.drawn
        obtain rfl : os' = s.os := hm.os
        refine wpAny_pure (show wpAny _ _ (ret Value.none) _ _ _ from wpAny_pure ⟨rfl, h', tk', rfl, hS', fun b o e => ?_⟩)
        have lb : b < s.heap.objs.size := Heap.lt_size e
        refine hm.heap b o (fun z => ?_) (Heap.get?_push_of_some _ (Heap.get?_push_of_some _ e))
        rcases List.mem_cons.mp z with z | z
        · exact absurd z (Nat.ne_of_lt lb)
        · rcases List.mem_cons.mp z with z | z
          · rw [sz] at z
            exact absurd z (Nat.ne_of_lt (Nat.lt_succ_of_lt lb))
          · cases z
    · match r₂, hr₂ with
      | .error e, hr₂ => exact hr₂
      | .ok (.ret r), hr₂ =>
        obtain ⟨rfl, done⟩ := hr₂
        repeat (any_goals (first | assumption | wp_step))
        exact h _ done
end
/-- set(x) of a list or a tuple of texts -/
def rSetW2 (X : Cx) : List V → Hp → VK → Prop := fun xs H Q => ∃ (a : Addr) (ks : List Str), xs = [.ref a] ∧ (SqL X.K H a (ks.map V.str) ∨ SqT X.K H a (ks.map V.str)) ∧ ks.length + 1 < scanBound ∧ ∀ p, H p = none → Q (.ref p) (upd H p (SetWO X.prog X.w p (onceW ks)))
theorem cr_setW2 {X : Cx} (hc : X.calm = true) : CallR X (.type "set") (rSetW2 X) := by
  intro pins s σ H xs us Q I r h
  obtain ⟨a, ks, rfl, hs | hs, few, q⟩ := h
  · exact cr_setW hc pins s σ H _ us Q I r ⟨a, ks, rfl, hs, few, q⟩
  · obtain ⟨u, rfl, ru⟩ := vals1 r
    cases ru
    obtain ⟨its, rv, p, _⟩ := I.tuple hs
    obtain ⟨ln, at_⟩ := strs_at rv
    refine set_of_wordsT ks (I.ok.hd hc) p (by simpa using ln) (fun i v h => at_ i v (by simpa using h)) few fun s₂ ⟨h', tk, e, R, k⟩ => ?_
    subst e
    exact ⟨.ref s.heap.objs.size, _, I.laid (t' := tk) k (Nat.le_refl _) (setW_ok R), rfl, q _ (I.hok.fresh (Nat.le_refl _))⟩
end Jg
namespace Jg
open PySem PySem.Spec PyProof.Rows L2
def iEither (K : PySem.W.Frag) (te : TE) : TI := fun σ H R => te σ H fun x H1 => ∃ a b xs, x = .ref a ∧ SqE K b H1 a xs ∧ R (if b = true then Itl K a else Itt K a) H1
theorem pi_either {X : Cx} {tg e : Expr} {te : TE} (he : PE X e te) : PI X tg e (iEither X.K te) := by
  refine ⟨fun pins s σ H R I h => thn (he.run pins s σ H _ I h) fun v t ⟨x, G, J, rx, a, b, xs, e1, sq, q⟩ => ?_⟩
  subst e1
  cases rx
  have old : ∀ c o, t.heap.get? c = some o → (t.heap.push { cls := .type "list_iterator", data := .fields #[.ref a, .int 0 0] }).get? c = some o := fun c o z => Heap.get?_push_of_some _ z
  have fp : ∀ c, c ∈ [t.heap.objs.size] → FpOk X pins G c := fun c hc => by
    rw [List.mem_singleton.mp hc]
    exact J.fpOk (Nat.le_refl _) (J.hok.fresh (Nat.le_refl _))
  cases b with
  | true =>
    obtain ⟨us, rv, at_, _⟩ := J.list (show SqL X.K G a xs from sq)
    exact wpAny_pyIter_list at_.isList ⟨t.heap.objs.size, [t.heap.objs.size], _, _, G, rfl, J.kept (t' := t.toks) fun c o z => Heap.get?_push_of_some _ z, turn_list a _, ⟨_, Heap.get?_push_size _ rfl, rfl, rfl⟩, fp, q⟩
  | false =>
    obtain ⟨us, rv, at_, _⟩ := J.tuple (show SqT X.K G a xs from sq)
    exact wpAny_pyIter_tuple (show t.heap.IsTuple a us.toArray from at_) ⟨t.heap.objs.size, [t.heap.objs.size], _, _, G, rfl, J.kept (t' := t.toks) fun c o z => Heap.get?_push_of_some _ z, turn_tuple a _, ⟨_, Heap.get?_push_size _ rfl, rfl, rfl⟩, fp, q⟩
theorem lc_either {K : PySem.W.Frag} {b : Bool} {a : Addr} {xs : List V} {g : TG} {tt : TT} {te : TE} {vs : List Nat} {σ : L2.St} {H1 : Hp} {D : Addr} {Qd : Hp → Prop} (Pv : Nat → Hp → Prop) (h0 : Pv 0 (upd H1 D (.lst []))) (hl : ∀ i H, i ≤ xs.length → Pv i H → SqE K b H a xs)
    (hs : ∀ i x H, xs[i]? = some x → Pv i H → g x (wipe σ vs) H fun σ2 H2 => wipe σ2 vs = wipe σ vs ∧ tt σ2 H2 fun k H3 =>
      if k = true then te σ2 H3 fun y H4 => ∃ acc, H4 D = some (.lst acc) ∧ acc.length < sizeLine ∧ Pv (i + 1) (upd H4 D (.lst (acc ++ [y]))) else Pv (i + 1) H3) (hd : ∀ H, Pv xs.length H → Qd H) :
    ∃ W : Nat → Nat → Hp → Prop, (∃ m, W 0 m (upd H1 D (.lst []))) ∧ ∀ i m H, W i m H →
      ((if b = true then Itl K a else Itt K a).stop i H ∧ Qd H) ∨ ((if b = true then Itl K a else Itt K a).go i H ∧ ∃ Nx : Hp → Prop, (∀ H', Nx H' → ∃ m', m' < m ∧ W (i + 1) m' H') ∧ ∀ x H', (if b = true then Itl K a else Itt K a).yld i H x H' → g x (wipe σ vs) H' fun σ2 H2 => wipe σ2 vs = wipe σ vs ∧ tt σ2 H2 fun k H3 =>
        if k = true then te σ2 H3 fun y H4 => ∃ acc, H4 D = some (.lst acc) ∧ acc.length < sizeLine ∧ Nx (upd H4 D (.lst (acc ++ [y]))) else Nx H3) := by
  cases b with
  | true => exact lc_list (K := K) (a := a) (xs := xs) Pv h0 hl hs hd
  | false => exact lc_tup (K := K) (a := a) (xs := xs) Pv h0 hl hs hd
end Jg
namespace Jg
open PySem PySem.Spec PyProof.Rows
/-- x is behind y -/
def bef (x y : Str) : Bool := !ltCps y.cps.toList x.cps.toList
theorem bef_iff {x y : Str} : bef x y = true ↔ ¬ y.cps.toList < x.cps.toList := by
  unfold bef
  rw [ltCps_eq]
  simp
theorem bef_total (x y : Str) : bef x y = true ∨ bef y x = true := by
  rcases Decidable.em (y.cps.toList < x.cps.toList) with h | h
  · exact .inr (bef_iff.mpr fun q => List.lt_irrefl _ (List.lt_trans h q))
  · exact .inl (bef_iff.mpr h)
theorem bef_anti {x y : Str} (h1 : bef x y = true) (h2 : bef y x = true) : x = y := by
  have a := bef_iff.mp h1
  have b := bef_iff.mp h2
  have e : x.cps.toList = y.cps.toList := List.le_antisymm (List.not_lt.mp a) (List.not_lt.mp b)
  have c : x.cps = y.cps := Array.ext' e
  cases x; cases y; cases c; rfl
theorem bef_trans {x y z : Str} (h1 : bef x y = true) (h2 : bef y z = true) : bef x z = true := by
  have a := List.not_lt.mp (bef_iff.mp h1)
  have b := List.not_lt.mp (bef_iff.mp h2)
  exact bef_iff.mpr (List.not_lt.mpr (List.le_trans a b))
theorem rising_pw : ∀ (l : List Str) (p : Str), risingS p l = true → (p :: l).Pairwise fun x y => bef x y = true
  | [], p, _ => List.pairwise_singleton _ _
  | x :: r, p, h => by
    have h' : (bef p x && risingS x r) = true := h
    rw [Bool.and_eq_true] at h'
    have ih := rising_pw r x h'.2
    refine List.pairwise_cons.mpr ⟨fun y hy => ?_, ih⟩
    rcases List.mem_cons.mp hy with e | hy
    · rw [e]; exact h'.1
    · exact bef_trans h'.1 ((List.pairwise_cons.mp ih).1 y hy)
theorem sorted_pw {l : List Str} (h : sortedS l = true) : l.Pairwise fun x y => bef x y = true := by
  cases l with
  | nil => exact .nil
  | cons x r => exact rising_pw r x h
theorem pw_sorted {l : List Str} (h : l.Pairwise fun x y => bef x y = true) : sortedS l = true :=
  sortedS_of_pairwise l (h.imp fun {a b} q => by
    have q' : (!ltCps b.cps.toList a.cps.toList) = true := q
    simpa using q')
theorem pw_uniq : ∀ {l m : List Str}, l.Pairwise (fun x y => bef x y = true) → m.Pairwise (fun x y => bef x y = true) → l.Perm m → l = m
  | [], m, _, _, p => (List.nil_perm.mp p).symm
  | x :: r, [], _, _, p => absurd p (by simp)
  | x :: r, y :: t, h1, h2, p => by
    have e : x = y := by
      have hx : x ∈ y :: t := p.mem_iff.mp (List.mem_cons_self ..)
      have hy : y ∈ x :: r := p.mem_iff.mpr (List.mem_cons_self ..)
      rcases List.mem_cons.mp hx with e | hx
      · exact e
      · rcases List.mem_cons.mp hy with e | hy
        · exact e.symm
        · exact bef_anti ((List.pairwise_cons.mp h1).1 y hy) ((List.pairwise_cons.mp h2).1 x hx)
    subst e
    rw [pw_uniq (List.pairwise_cons.mp h1).2 (List.pairwise_cons.mp h2).2 (List.Perm.cons_inv p)]
def srtW (l : List Str) : List Str := l.mergeSort bef
theorem srtW_perm (l : List Str) : (srtW l).Perm l := List.mergeSort_perm l bef
theorem bef_total' (x y : Str) : (bef x y || bef y x) = true := by rw [Bool.or_eq_true]; exact bef_total x y
theorem srtW_sorted (l : List Str) : sortedS (srtW l) = true := by
  have h : (l.mergeSort bef).Pairwise fun x y => bef x y = true := by
    first
      | exact List.pairwise_mergeSort (le := bef) (fun _ _ _ h1 h2 => bef_trans h1 h2) bef_total' l
      | exact List.sorted_mergeSort (le := bef) (fun _ _ _ h1 h2 => bef_trans h1 h2) bef_total' l
  exact pw_sorted h
theorem srt_eq {l m : List Str} (s : sortedS l = true) (p : l.Perm m) : l = srtW m := pw_uniq (sorted_pw s) (sorted_pw (srtW_sorted m)) (p.trans (srtW_perm m).symm)
theorem srtW_congr {l m : List Str} (p : l.Perm m) : srtW l = srtW m := srt_eq (srtW_sorted l) ((srtW_perm l).trans p)
theorem srtW_len (l : List Str) : (srtW l).length = l.length := (srtW_perm l).length_eq
theorem srtW_mem {l : List Str} {x : Str} : x ∈ srtW l ↔ x ∈ l := (srtW_perm l).mem_iff
theorem srtW_nodup {l : List Str} : (srtW l).Nodup ↔ l.Nodup := (srtW_perm l).nodup_iff
end Jg
namespace Jg
open PySem PySem.Spec PyProof.Rows L2
def look : List (Key × PyData) → Key → Option PyData
  | [], _ => none
  | p :: r, k => if p.1 = k then some p.2 else look r k
end Jg
namespace Jg
open PySem PySem.Spec PyProof.Rows L2
theorem lay_strs : ∀ xs : List Str, (∀ z ∈ xs, okW z) → PyData.canLayAll0 (xs.map PyData.str) = true
  | [], _ => rfl
  | x :: xs, h => by
    show (PyData.canLay0 (.str x) && PyData.canLayAll0 (xs.map PyData.str)) = true
    rw [lay_strs xs fun z hz => h z (List.mem_cons_of_mem _ hz)]
    have e : PyData.canLay0 (.str x) = true := by
      have := h x (List.mem_cons_self ..)
      unfold okW at this
      simp [PyData.canLay0, this]
    rw [e]; rfl
theorem depth_strs : ∀ xs : List Str, PyData.depthAll (xs.map PyData.str) = 0
  | [] => rfl
  | x :: xs => by
    show max (PyData.depth (.str x)) (PyData.depthAll (xs.map PyData.str)) = 0
    rw [depth_strs xs]; rfl
theorem shaped_strs {xs : List Str} (h : ∀ z ∈ xs, okW z) : SeqAt.shaped (.list (xs.map PyData.str)) = true := by
  show (PyData.canLayAll0 (xs.map PyData.str) && decide (PyData.depthAll (xs.map PyData.str) + 1 ≤ 64)) = true
  rw [lay_strs xs h, depth_strs]; rfl
theorem eqv_str (x y : Str) : PyData.eqv (.str x) (.str y) = decide (x = y) := by
  by_cases c : x = y
  · subst c; simp [PyData.eqv]
  · simp [PyData.eqv, c]
theorem eqvAll_strs : ∀ xs ys : List Str, PyData.eqvAll (xs.map PyData.str) (ys.map PyData.str) = decide (xs = ys)
  | [], [] => rfl
  | [], y :: ys => rfl
  | x :: xs, [] => rfl
  | x :: xs, y :: ys => by
    have ih := eqvAll_strs xs ys
    show (PyData.eqv (.str x) (.str y) && PyData.eqvAll (xs.map PyData.str) (ys.map PyData.str)) = _
    rw [ih, eqv_str]
    by_cases c : x = y
    · subst c
      by_cases d : xs = ys
      · subst d; simp
      · simp [d]
    · simp [c]
theorem eqv_strs (xs ys : List Str) : PyData.eqv (.list (xs.map PyData.str)) (.list (ys.map PyData.str)) = decide (xs = ys) := by
  rw [PyData.eqv]; exact eqvAll_strs xs ys
theorem dpAll_strs {K : PySem.W.Frag} {H : Hp} : ∀ xs : List Str, DpAll K H (xs.map V.str) (xs.map PyData.str)
  | [] => .nil
  | x :: xs => .cons (.str x) (dpAll_strs xs)
theorem dp_strs {K : PySem.W.Frag} {H : Hp} {a : Addr} {xs : List Str} (h : SqL K H a (xs.map V.str)) : Dp K H (.ref a) (.list (xs.map PyData.str)) := .lst h (dpAll_strs xs)
theorem ask_neS {K : PySem.W.Frag} {H : Hp} {a b : Addr} {xs ys : List Str} {Q : VK} (h1 : SqL K H a (xs.map V.str)) (h2 : SqL K H b (ys.map V.str)) (k1 : ∀ z ∈ xs, okW z) (k2 : ∀ z ∈ ys, okW z) (q : Q (.bl (!decide (xs = ys))) H) : rNeD K (.ref a) (.ref b) H Q :=
  ⟨_, _, dp_strs h1, dp_strs h2, shaped_strs k1, shaped_strs k2, by rw [eqv_strs]; exact q⟩
/-- z in a list of texts -/
theorem inV_strs {m : Str} : ∀ {xs : List Str}, inV (.str m) (xs.map V.str) = decide (m ∈ xs)
  | [] => rfl
  | x :: xs => by
    have ih := inV_strs (m := m) (xs := xs)
    show (eqV (.str x) (.str m) || inV (.str m) (xs.map V.str)) = _
    rw [ih]
    have e : eqV (.str x) (.str m) = decide (x = m) := by
      by_cases c : x = m
      · subst c; simp [eqV]
      · simp [eqV, c]
    rw [e]
    by_cases c : x = m
    · subst c; simp
    · have c' : ¬ m = x := fun z => c z.symm
      simp [c, c']
theorem flat_strs : ∀ {xs : List Str}, (xs.map V.str).all flatV = true
  | [] => rfl
  | x :: xs => by
    show (flatV (.str x) && (xs.map V.str).all flatV) = true
    rw [flat_strs]; rfl
theorem ask_notInS {K : PySem.W.Frag} {H : Hp} {a : Addr} {xs : List Str} {m : Str} {Q : VK} (h : SqL K H a (xs.map V.str)) (q : Q (.bl (!decide (m ∈ xs))) H) : rIn K true (.str m) (.ref a) H Q :=
  ⟨a, _, rfl, .inl h, rfl, flat_strs, by
    show Q (.bl (!inV (.str m) (xs.map V.str))) H
    rw [inV_strs]; exact q⟩
/-- plain texts may be laid -/
theorem okW_ascii {z : Str} (h : PySem.Txt.isascii z = true) : okW z := by
  unfold PySem.Txt.isascii at h
  unfold okW PyData.strOk
  rw [← Array.all_toList, List.all_eq_true] at h ⊢
  intro c hc
  have := of_decide_eq_true (h c hc)
  exact decide_eq_true (by omega)
end Jg
namespace Jg
open PySem PySem.Spec PyProof.Rows L2
structure MakN (P : Program) (w : World) (K : PySem.W.Frag) (mg : Str → Option Value) (base : Heap) (CX : CXT) (k : Nat) (x : Str) (C : Addr) (n : Nat) (ks : List Str) (gV : List V → List V → List V) (sp : Sp) : Prop where
  mg_ : mg x = some (.ref C)
  mks : PySem.W.makesIn K C = true
  kp : PySem.W.keepIn K (.ref C) = true
  ex : ∃ f fd ps g, FnOk P w K mg base CX k f fd ps sp ∧ PySem.W.findIn K (.ref C) "__init__" = some (some (.ref f)) ∧ PySem.W.isFn K (.ref f) = true ∧ KBn K fd ps (n + 1) ks g gV
def tMakeNS (C : Addr) (n m : Nat) (sp : Sp) (gV : List V → List V → List V) (E : L2.St → XK) (t tk : TA) : TE := fun σ H Q => t σ H fun vs H1 => tk σ H1 fun zs H2 => vs.length = n ∧ zs.length = m ∧ ∀ x dx, H2 x = none → H2 dx = none → dx ≠ x →
  sp (gV (.ref x :: vs) zs) (upd (upd H2 dx (.own x)) x (.ins C dx [])) (fun v H3 => v = .non ∧ Q (.ref x) H3) (E σ)
section
variable {X : Cx} {k j n : Nat} {C : Addr} {ks : List Str} {sp : Sp} {x : Str} {p pos : Pos} {kws : List Keyword} {e : Expr} {es : List Expr} {t ta : TA} {gV : List V → List V → List V} {W : WX}
theorem pe_mkNS (c : MakN X.prog X.w X.K X.mg X.base (L2.CX X.prog X.w) k x C n ks gV sp) (tk : Takes X W) (hr : Room j X.A) (hk : k + 1 ≤ j) (hg : Gl X x) (ha : PA X (e :: es) t) (hkw : PK X kws ta)
    (hall : (backToKw pos (keywordEach kws X.env)).all (·.1.isSome) = true := by rfl) (hks : (backToKw pos (keywordEach kws X.env)).filterMap (·.1) = ks := by rfl) (hdb : (x == ("__debug__" : Str)) = false := by decide)
    (he : starEach (e :: es) X.env = (false, eval e X.env) :: starEach es X.env := by rfl) (hpl : ((backTo pos (starEach (e :: es) X.env)).any (·.1) || (backToKw pos (keywordEach kws X.env)).any (·.1.isNone)) = false := by rfl) :
    PE X (.Call (.Name x p) (e :: es) kws pos) (tMakeNS C n ks.length sp gV (WE W) t ta) := by
  obtain ⟨f, fd, ps, g, F, ini, fn, b⟩ := c.ex
  refine ⟨fun pins s σ H Q I h => wpAny_Call_Name_kw (ld_glob I hg c.mg_ (PySem.W.callWith_KW (h₀ := X.base) I.ok.mod.kin c.kp hall (thn (ha.run pos pins s σ H _ I h) fun us s1 ⟨vs, H1, I1, r, q⟩ => ?_) hpl he) hdb)⟩
  refine thn (hkw.run pos pins s1 σ H1 _ I1 q) fun ws s2 ⟨zs, H2, J, rz, l1, l2, q⟩ => ⟨J.kIn, ?_⟩
  rw [hks]
  let m := s2.heap.objs.size
  have q1 := q (m + 1) m (J.hok.fresh (Nat.le_succ _)) (J.hok.fresh (Nat.le_refl _)) (Nat.ne_of_lt (Nat.lt_succ_self _))
  have J2 := Inv.made (C := C) J
  have r1 : Vals (V.ref (m + 1) :: vs) (Value.ref (m + 1) :: us) := .cons rfl r
  have n1 : (Value.ref (m + 1) :: us).length = n + 1 := by
    rw [List.length_cons, ← r.length, l1]
  have run := F.run _ X.stack _ _ ⟨Value.ref (m + 1) :: us, ks.zip ws⟩ _ _ _ (WE W σ) ((hr.mono hk).make C us (ks.zip ws)) (J2.env0.make C us (ks.zip ws)) (b.to _ (Value.ref (m + 1) :: us) ws J2.kIn n1 (rz.length.symm.trans l2)) (b.rel r1 rz) q1
  show wpAny (model X.prog X.w) X.A (call (.ref C) us (ks.zip ws)) (EP X pins σ Q) X.xe s2
  refine wpAny_call (make_map (f := f) J.kIn c.mks ini (beq_iff_eq.mp fn) (codeAny_mono run fun o s3 z => ?_))
  match o, z with
  | .error err, z => exact passAt tk σ pins _ _ err s3 J2 z
  | .ok (.ret u), z =>
    obtain ⟨v, H3, J3, rv, ev, q3⟩ := J2.after z
    subst ev
    exact ⟨rv, V.ref (m + 1), H3, J3, rfl, q3⟩
end
section
variable {P : Program} {w : World} {K : PySem.W.Frag} {mg : Str → Option Value} {base : Heap} {k : Nat} {C : Addr} {x qual : Str} {st : Stmt} {N ps ks : List Str} {kws : List (Str × V)} {sp : Sp}
theorem IniK.makN (D : IniK K C qual st kws) (m : mg x = some (.ref C)) (mk : PySem.W.makesIn K C = true) (kp : PySem.W.keepIn K (.ref C) = true) (S : FnScope N ps (defScope st)) (len : ∀ vs H Q E, sp vs H Q E → vs.length = ps.length) (n : Nat)
    (ms : List (Str × V)) (g : {α : Type} → List α → List α → List α → List α) (hk : kws ≠ []) (hms : ∀ q ∈ ms, q ∈ kws) (hrel : ∀ {vs mz zs : List V} {us mv ws : List Value}, Vals vs us → Vals mz mv → Vals zs ws → Vals (g vs mz zs) (g us mv ws))
    (hb : ∀ (D : Addr) (doc pm : Value) (an : Option Addr) (cdv ct : Value) (us mv ws : List Value), us.length = n + 1 → mv.length = ms.length → ws.length = ks.length →
      KwChain D ((ms.map (·.1)).zip mv) (bindArgs (PySem.W.fnOf "__init__" qual (defArgs st) (defBody st) (defScope st) .none (.ref D) doc pm an cdv ct) ⟨us, ks.zip ws⟩) (ps.zip (g us mv ws)))
    (body : ∀ f, BodyX P w K mg base N qual st f k sp) : MakN P w K mg base (L2.CX P w) (k + 1) x C n ks (fun vs zs => g vs (ms.map (·.2)) zs) sp :=
  let ⟨f, fd, F, a, i⟩ := D.ex
  let ⟨mv, b⟩ := F.kbinds0 (n + 1) ks ms g hk hms hrel hb
  ⟨m, mk, kp, f, fd, ps, _, F.ok S len (body f), a, i, b⟩
end
section
variable {X : Cx} {k j : Nat} {C : Addr} {x m : Str} {sp : Sp} {W : WX} {p pos apos : Pos} {o : Expr} {ta : TE}
theorem pe_mz {pl : Sem Bool} (c : Met X.prog X.w X.K X.mg X.base CX0 k C m sp) (cl : Cls X.K C) (hr : Room j X.A) (hk : k ≤ j) (he : PE X o ta)
    (ht : eval (.Call (.Attribute o m apos) [] [] pos) X.env = (do
      let ov ← eval o X.env
      standAt apos.atName
      let (f, first) ← holding [ov] (getMethod ov m pl)
      callWith pos f first (backTo pos (starEach [] X.env)) (backToKw pos (keywordEach [] X.env))) := by rfl) :
    PE X (.Call (.Attribute o m apos) [] [] pos) (tMeth C m sp [] E0 ta tNil) := by
  obtain ⟨f, fd, ps, F, a, i, kp, b⟩ := c.ex
  exact pe_meth0 (pl := pl) he cl ⟨a, i, kp⟩ F (hr.mono hk) b .nil pass0 ht
end
end Jg
namespace Jg
open PySem PySem.Spec PyProof.Rows L2
end Jg
namespace Jg
open PySem PySem.Spec PyProof.Rows L2
end Jg
namespace Jg
open PySem PySem.Spec PyProof.Rows L2
/-- a try in a loop: its reading by a name -/
def tTry (tb : WX → TS) (w : Ends → WX) : TS := fun D σ H => tb (w D) D σ H
theorem ps_tryT {X : Cx} {Wout : WX} {body : List Stmt} {h₀ : ExceptHandler} {hds : List ExceptHandler} {w : Ends → WX} {pos : Pos} {tb : WX → TS} (hd : Hds X Wout (h₀ :: hds) w) (hs : X.stack = X.env :: X.outer) (fr : X.env.frame = some X.env.locals) (hN : X.N.Nodup) (tk : Takes X Wout)
    (hb : ∀ (W : WX) (pn : List (Addr × Obj)) (xe : Value → Shared → Prop), Takes (X.tr pn xe) W → PassesOwn (model X.prog X.w) X.A X.env xe → PSs (X.tr pn xe) body (tb W)) :
    PS X (.Try body (h₀ :: hds) [] [] pos) (tTry tb w) := ps_try hd hs fr hN tk hb
end Jg
namespace Jg
open PySem PySem.Spec PyProof.Rows L2
/-- list(x) and tuple(x), named -/
def rListOf (K : PySem.W.Frag) : List V → Hp → VK → Prop := fun xs H Q => ∃ p ys, xs = [.ref p] ∧ (SqL K H p ys ∨ SqT K H p ys) ∧ ∀ l, H l = none → Q (.ref l) (upd H l (.lst ys))
theorem cr_listOf {X : Cx} : CallR X (.type "list") (rListOf X.K) := call_list_of
end Jg
namespace Jg
open PySem PySem.Spec PyProof.Rows L2
/-- as repr asks for it -/
theorem Sb.ask {d : PyData} {n k : Nat} (h : Sb d n k) (z : n ≤ 160000) (hk : k ≤ 40) : d.showable = true ∧ d.depth ≤ 40 ∧ d.shown.length ≤ sizeLine := ⟨h.sh, Nat.le_trans h.dp hk, h.len z⟩
end Jg
namespace Jg
open PySem PySem.Spec PyProof.Rows L2
section
variable {P : Program} {w : World} {K : PySem.W.Frag}
theorem dict_ep2 {o : Obj} {es es' : Array DictEntry} {ep ep' : Nat} (h : o.data = .dict es ep) (h' : o.data = .dict es' ep') : es = es' ∧ ep = ep' := by
  rw [h] at h'
  injection h' with a b
  exact ⟨a, b⟩
variable {X : Cx} {pins : List (Addr × Obj)} {σ : L2.St} {H : Hp} {s : Shared} {d : Addr} {o : Obj}
theorem frzN (I : Inv X pins σ H s) (h : H d = some (.frz o (NkO X.prog X.w d))) :
    (d == sysModules) = false ∧ s.heap.get? d = some o ∧ o.ExactDict ∧ ∃ (es : Array DictEntry) (ep : Nat) (u : Value), o.data = .dict es ep ∧ es.size = 1 ∧ s.heap.DictAt (noneKind X.prog X.w) d [(none, u)] ep := by
  obtain ⟨hd, ⟨hs, u, o', es, ep, ho, hx, hdt, r⟩, _⟩ := I.hok d _ h
  rw [hd] at ho
  cases ho
  refine ⟨hs, hd, hx, es, ep, u, hdt, ?_, o, es, hd, hx, hdt, r⟩
  have l1 := r.2.1.length
  rw [Array.length_toList] at l1
  exact l1
def ItN (P : Program) (w : World) (d : Addr) (o : Obj) : It :=
  ⟨fun i H => H d = some (.frz o (NkO P w d)) ∧ i < 1, fun i H x H' => H' = H ∧ x = .non, fun i H => H d = some (.frz o (NkO P w d)) ∧ 1 ≤ i⟩
theorem walk_none : Walk (ItN P w d o) 1 (fun H => H d = some (.frz o (NkO P w d))) (fun i H x H' => H' = H ∧ x = .non) :=
  ⟨fun _ _ hi q => ⟨q, hi⟩, fun _ q => ⟨q, Nat.le_refl _⟩, fun _ _ _ _ _ _ y => y⟩
theorem turn_none {tg : Expr} {es : Array DictEntry} {ep : Nat} (it : Addr) (hod : o.data = .dict es ep) : Turn P w K tg (ItN P w d o) [it] it (fun i h => h.IsKeyIter it d i 1 ep) where
  mem := by simp
  obj := fun i h st b hb => by
    have e : b = it := by simpa using hb
    subst e
    obtain ⟨oi, e, c, dd⟩ := st
    exact ⟨oi, e, fun v z => by rw [dd] at z; cases z⟩
  keep := fun i h h' st k => st.at fun oi e => k it (by simp) oi e
  item := by
    intro X hP hw hK hc i pins s σ H E I hf st hg
    subst hP hw hK
    obtain ⟨hd, hi⟩ := hg
    obtain ⟨f0, f1, f2, f3, f4, f5⟩ := hf it (by simp)
    obtain ⟨hs, hgd, hx, es', ep', u, hdt, hsz, hm⟩ := frzN I hd
    obtain ⟨rfl, rfl⟩ := dict_ep2 hod hdt
    obtain rfl : i = 0 := by omega
    refine wpAny_pyNext_dict_item (kvs := [(none, u)]) (k := none) (v := u) st hm rfl fun key h' hkey st' sb => ?_
    have I1 : Inv X pins σ H { s with heap := h' } := I.turned (t' := s.toks) (fun b ob hb e => (sb.2 b hb).trans e) f0 f1 f3 f4 f5
    obtain ⟨oi, e, c, dd⟩ := id st'
    have ek := nk_none hkey
    subst ek
    exact ⟨.none, rfl, go_of (s := { s with heap := h' }) e c dd (by decide) ⟨.non, H, I1, rfl, ⟨rfl, rfl⟩, st', fun b hb => (hf b hb).1⟩⟩
  done := by
    intro X hP hw hK hc i pins s σ H E I hf st hg
    subst hP hw hK
    obtain ⟨hd, hi⟩ := hg
    obtain ⟨f0, f1, f2, f3, f4, f5⟩ := hf it (by simp)
    obtain ⟨hs, hgd, hx, es', ep', u, hdt, hsz, hm⟩ := frzN I hd
    obtain ⟨rfl, rfl⟩ := dict_ep2 hod hdt
    exact next_key_end (I.ok.hd hc) st hgd hdt hsz hi fun h' eb => ⟨rfl, I.turned (t' := s.toks) (fun b ob hb e => eb b ob hb e) f0 f1 f3 f4 f5⟩
  self := fun A i s Q E st h => wpAny_pyIter_keyiter st h
end
/-- for x in d: d as everywhere, or of the one key None -/
def iKeysE (P : Program) (w : World) (td : TE) : TI := fun σ H R => td σ H fun x H1 => ∃ d o, x = .ref d ∧ ((∃ kvs, H1 d = some (.frz o (.dK kvs)) ∧ R (Itk d o kvs) H1) ∨ (H1 d = some (.frz o (NkO P w d)) ∧ R (ItN P w d o) H1))
section
variable {X : Cx} {tg e : Expr} {td : TE} {pos : Pos}
theorem pi_keysE (he : PE X e td) : PI X tg e (iKeysE X.prog X.w td) := by
  refine ⟨fun pins s σ H R I h => ?_⟩
  refine thn (he.run pins s σ H _ I h) fun u s1 ⟨x, H1, I1, rx, d, o, ex, q⟩ => ?_
  subst ex
  obtain rfl : u = Value.ref d := rx
  rcases q with ⟨kvs, hd, q⟩ | ⟨hd, q⟩
  · obtain ⟨hs, hgd, hx, es, ep, vs, hdt, hsz, kv, hm⟩ := I1.frzK hd
    refine iter_keys hs hgd hx hdt (pi_one (tk := s1.toks) I1 _ (turn_keys _ hdt) ⟨_, Heap.get?_push_size _ rfl, rfl, ?_⟩ q)
    rw [hsz] <;> rfl
  · obtain ⟨hs, hgd, hx, es, ep, u, hdt, hsz, hm⟩ := frzN I1 hd
    refine iter_keys hs hgd hx hdt (pi_one (tk := s1.toks) I1 _ (turn_none _ hdt) ⟨_, Heap.get?_push_size _ rfl, rfl, ?_⟩ q)
    rw [hsz] <;> rfl
def rIsiE (P : Program) (w : World) (K : PySem.W.Frag) : List V → Hp → VK → Prop := fun xs H Q => rIsi K xs H Q ∨ ∃ a, xs = [.ref a, .ty "dict"] ∧ H a = some (NkO P w a) ∧ Q (.bl true) H
theorem call_isiE : CallR X (.builtin "isinstance") (rIsiE X.prog X.w X.K) := by
  intro pins s σ H xs us Q I r h
  rcases h with h | ⟨a, rfl, ha, q⟩
  · exact call_isi pins s σ H xs us Q I r h
  · obtain ⟨u1, u2, rfl, r1, r2⟩ := vals2 r
    cases (show u1 = Value.ref a from r1)
    cases (show u2 = Value.type "dict" from r2)
    obtain ⟨⟨hs, u, o, es, ep, ho, hx, _⟩, _⟩ := I.hok a _ ha
    exact PySem.W.kia_one PySem.W.kitx_dict I.kIn ⟨o, ho, hx.1⟩ (kit_ty (by decide +kernel)) (fun z => nomatch z) fun tk => ⟨.bl true, H, I.tok tk, rfl, q⟩
def rLenE (P : Program) (w : World) : List V → Hp → VK → Prop := fun xs H Q => (∃ a kvs, xs = [V.ref a] ∧ H a = some (.dK kvs) ∧ Q (.int kvs.length) H) ∨ ∃ a, xs = [.ref a] ∧ H a = some (NkO P w a) ∧ Q (.int 1) H
theorem call_lenE : CallR X (.builtin "len") (rLenE X.prog X.w) := by
  intro pins s σ H xs us Q I r h
  rcases h with h | ⟨a, rfl, ha, q⟩
  · exact call_lenD pins s σ H xs us Q I r h
  · obtain ⟨u, rfl, ru⟩ := vals1 r
    cases ru
    obtain ⟨⟨hs, u, dd⟩, _⟩ := I.hok a _ ha
    exact call_len_dict hs dd (by show ((1 : Nat) : Int) < 2 ^ 63; decide) ⟨.int 1, H, I.tok _, ⟨_, rfl⟩, q⟩
end
end Jg
namespace Jg
open PySem PySem.Spec PyProof.Rows L2
structure MetW (P : Program) (w : World) (K : PySem.W.Frag) (mg : Str → Option Value) (base : Heap) (CX : CXT) (k : Nat) (C : Addr) (m : Str) (n : Nat) (ks : List Str) (gV : List V → List V → List V) (sp : Sp) : Prop where
  ex : ∃ f fd ps g, FnOk P w K mg base CX k f fd ps sp ∧ PySem.W.findIn K (.ref C) m = some (some (.ref f)) ∧ PySem.W.isFn K (.ref f) = true ∧ PySem.W.keepIn K (.ref f) = true ∧ KBn K fd ps n ks g gV
def tMethK (C : Addr) (m : Str) (n l : Nat) (sp : Sp) (gV : List V → List V → List V) (E : L2.St → XK) (ta : TE) (t tk : TA) : TE := fun σ H Q => ta σ H fun x H1 => ∃ a dx fs, x = .ref a ∧ H1 a = some (.ins C dx fs) ∧ fs.lookup m = none ∧
  t σ H1 fun vs H2 => tk σ H2 fun zs H3 => vs.length + 1 = n ∧ zs.length = l ∧ sp (gV (.ref a :: vs) zs) H3 Q (E σ)
section
variable {X : Cx} {k j n : Nat} {C : Addr} {x m : Str} {ks : List Str} {gV : List V → List V → List V} {sp : Sp} {W : WX} {p pos apos : Pos} {e o : Expr} {es : List Expr} {kws : List Keyword} {ta : TE} {t tk : TA}
/-- o.m(e, .., k = v, ..) -/
theorem pe_mKS {pl : Sem Bool} (c : MetW X.prog X.w X.K X.mg X.base (L2.CX X.prog X.w) k C m n ks gV sp) (cl : Cls X.K C) (tak : Takes X W) (hr : Room j X.A) (hk : k ≤ j) (he : PE X o ta) (ha : PA X (e :: es) t) (hkw : PK X kws tk)
    (hall : (backToKw pos (keywordEach kws X.env)).all (·.1.isSome) = true := by rfl) (hks : (backToKw pos (keywordEach kws X.env)).filterMap (·.1) = ks := by rfl)
    (hst : starEach (e :: es) X.env = (false, eval e X.env) :: starEach es X.env := by rfl) (hpl : ((backTo pos (starEach (e :: es) X.env)).any (·.1) || (backToKw pos (keywordEach kws X.env)).any (·.1.isNone)) = false := by rfl)
    (ht : eval (.Call (.Attribute o m apos) (e :: es) kws pos) X.env = (do
      let ov ← eval o X.env
      standAt apos.atName
      let (f, first) ← holding [ov] (getMethod ov m pl)
      callWith pos f first (backTo pos (starEach (e :: es) X.env)) (backToKw pos (keywordEach kws X.env))) := by rfl) :
    PE X (.Call (.Attribute o m apos) (e :: es) kws pos) (tMethK C m n ks.length sp gV (WE W) ta t tk) := by
  obtain ⟨f, fd, ps, g, F, at_, i, kp, b⟩ := c.ex
  refine ⟨fun pins s σ H Q I h => PySem.W.methodCall_KW (pl := pl) (thn (he.run pins s σ H _ I h) fun u s1 ⟨x, H1, I1, rx, a, dx, fs, ex, ea, l, q⟩ => ?_) ht⟩
  subst ex
  obtain rfl : u = Value.ref a := rx
  refine getmeth_ok I1 ea cl ⟨at_, i, kp⟩ l (PySem.W.callWith_KW (first := [.ref a]) (h₀ := X.base) I.ok.mod.kin kp hall (thn (ha.run pos pins s1 σ H1 _ I1 q) fun us s2 ⟨vs, H2, I2, r, q2⟩ => ?_) hpl hst)
  refine thn (hkw.run pos pins s2 σ H2 _ I2 q2) fun ws s3 ⟨zs, H3, I3, rz, l1, l2, q3⟩ => ⟨I3.kIn, ?_⟩
  rw [hks]
  have r1 : Vals (.ref a :: vs) (.ref a :: us) := .cons rfl r
  have r2 := b.rel r1 rz
  have n1 : (Value.ref a :: us).length = n := by rw [List.length_cons, ← r.length]; exact l1
  have n2 : ws.length = ks.length := rz.length.symm.trans l2
  show wpAny _ _ (call (.ref f) (Value.ref a :: us) (ks.zip ws)) _ _ _
  refine wpAny_call (codeAny_mono (F.run X.A X.stack s3 H3 ⟨.ref a :: us, ks.zip ws⟩ _ _ Q (WE W σ) (hr.mono hk) I3.env0 (b.to s3 _ ws I3.kIn n1 n2) r2 q3) fun r s' hq => ?_)
  match r, hq with
  | .error err, z => exact passAt tak σ pins _ _ err s' I3 z
  | .ok (.ret u), z => exact I3.after z
end
section
variable {P : Program} {w : World} {K : PySem.W.Frag} {mg : Str → Option Value} {base : Heap} {k : Nat} {C : Addr} {m qual : Str} {st : Stmt} {N ps ks : List Str} {kws : List (Str × V)} {sp : Sp}
theorem MthK.met (D : MthK K C m qual st kws) (S : FnScope N ps (defScope st)) (len : ∀ vs H Q E, sp vs H Q E → vs.length = ps.length) (n : Nat)
    (ms : List (Str × V)) (g : {α : Type} → List α → List α → List α → List α) (hk : kws ≠ []) (hms : ∀ q ∈ ms, q ∈ kws) (hrel : ∀ {vs mz zs : List V} {us mv ws : List Value}, Vals vs us → Vals mz mv → Vals zs ws → Vals (g vs mz zs) (g us mv ws))
    (hb : ∀ (D : Addr) (doc pm : Value) (an : Option Addr) (cdv ct : Value) (us mv ws : List Value), us.length = n → mv.length = ms.length → ws.length = ks.length →
      KwChain D ((ms.map (·.1)).zip mv) (bindArgs (PySem.W.fnOf m qual (defArgs st) (defBody st) (defScope st) .none (.ref D) doc pm an cdv ct) ⟨us, ks.zip ws⟩) (ps.zip (g us mv ws)))
    (body : ∀ f, BodyX P w K mg base N qual st f k sp) : MetW P w K mg base (L2.CX P w) (k + 1) C m n ks (fun vs zs => g vs (ms.map (·.2)) zs) sp :=
  let ⟨f, fd, F, a, i⟩ := D.ex
  let ⟨mv, b⟩ := F.kbinds0 n ks ms g hk hms hrel hb
  ⟨f, fd, ps, _, F.ok S len (body f), a, i, F.kp, b⟩
end
end Jg
namespace Jg
open PySem PySem.Spec PyProof.Rows L2
/-- lower-case signs only -/
def Low (z : Str) : Prop := ∀ c ∈ tlS z, 97 ≤ c ∧ c ≤ 122
theorem low_char : ∀ c, c < 123 → 97 ≤ c → Builtin.Str.reprChar 39 c = [c] := by decide +kernel
theorem fold_low : ∀ (l : List Nat) (acc : Array Nat), (∀ c ∈ l, 97 ≤ c ∧ c ≤ 122) → (l.foldl (fun out c => out ++ (Builtin.Str.reprChar 39 c).toArray) acc).toList = acc.toList ++ l
  | [], acc, _ => by simp
  | c :: r, acc, h => by
    have hc := h c List.mem_cons_self
    rw [List.foldl_cons, fold_low r _ fun x hx => h x (List.mem_cons_of_mem _ hx), low_char c (by omega) hc.1]
    simp
theorem tl_repr {z : Str} (h : Low z) : tlS (reprText z) = 39 :: (tlS z ++ [39]) := by
  have q : reprQuote z = 39 := by
    unfold reprQuote
    have n : z.cps.contains 39 = false := by
      cases hc : z.cps.contains 39 with
      | false => rfl
      | true =>
        have m : 39 ∈ z.cps := by simpa using hc
        have m2 := h 39 (by unfold tlS; exact Array.mem_toList_iff.mpr m)
        omega
    rw [n]; rfl
  unfold reprText
  rw [q]
  show ((z.cps.foldl (fun out c => out ++ (Builtin.Str.reprChar 39 c).toArray) #[39]).push 39).toList = _
  rw [← Array.foldl_toList, Array.toList_push, fold_low _ _ (show ∀ c ∈ z.cps.toList, 97 ≤ c ∧ c ≤ 122 from h)]
  rfl
end Jg
namespace Jg
open PySem PySem.Spec PyProof.Rows L2
end Jg
namespace K26C
open PySem PySem.Spec PyProof.Rows L2 Jg
local macro_rules | `(tactic| walk_at "rd1") => `(tactic| (first
  | refine ⟨_, rfl, ?_⟩
  | refine ⟨_, _, rfl, rfl, ?_⟩
  | refine ⟨_, _, rfl, ?_⟩
  | refine ⟨rfl, ?_⟩
  | (refine ⟨show (0 : Int) < _ by omega, ?_⟩)
  | (refine ⟨Or.inl ⟨by omega, by omega⟩, ?_⟩)
  | (refine ⟨Or.inr ⟨by omega, by omega⟩, ?_⟩)
  | (refine ⟨(⟨by decide, by decide, by decide⟩ : CPow _ _), ?_⟩)
  | refine Or.inl ⟨_, rfl, ?_⟩
  | refine Or.inr ⟨_, rfl, ?_⟩
  | fail "rd"))
local macro_rules | `(tactic| walk_at "rd") => `(tactic| repeat' walk_at "rd1")
theorem kii {K : PySem.W.Frag} : kit K (.type "int") "int" true := kit_ty (by decide +kernel)
theorem kib {K : PySem.W.Frag} : kit K (.type "int") "bool" false := kit_ty (by decide +kernel)
def spIsInt (K : PySem.W.Frag) : Sp := fun vs H Q _ => ∃ x t b1 b2, vs = [x] ∧ TyX K H x t ∧ kit K t "int" b1 ∧ (b1 = true → kit K t "bool" b2) ∧ Q (.bl (b1 && !b2)) H
def spWord (K : PySem.W.Frag) : Sp := fun vs H Q _ => ∃ y, vs = [y] ∧ ((∃ z, y = .str z ∧ z.length ≤ sizeLine ∧ Q (.bl (wordB z)) H) ∨ (∃ t, TyX K H y t ∧ kit K t "str" false ∧ Q (.bl false) H))
theorem yes_if {σ : L2.St} {H : Hp} {A B : Hp → Prop} (h : A H) : tYes σ H (fun b H3 => if b = true then A H3 else B H3) := by
  show (if true = true then A H else B H)
  rw [if_pos rfl]
  exact h
theorem same_new {H : Hp} {p : Addr} {o : HO} (h : H p = none) : Same H (upd H p o) := fun b u e => by rw [upd_ne (ne_of_none e h)]; exact e
theorem same_new' {H H1 : Hp} {p : Addr} {o : HO} (s : Same H H1) (h : H1 p = none) : Same H (upd H1 p o) := s.trans (same_new h)
theorem kAny_seq {K : PySem.W.Frag} (b : Bool) : PySem.W.kitAny K (.type (if b then "list" else "tuple")) [.type "list", .type "tuple"] = some true := by
  cases b with
  | true =>
    show (match PySem.W.kitOne K (.type "list") (.type "list") with | some true => some true | some false => PySem.W.kitAny K (.type "list") [.type "tuple"] | none => none) = _
    rw [show PySem.W.kitOne K (.type "list") (.type "list") = some true from kit_ty (by decide +kernel)]
  | false =>
    show (match PySem.W.kitOne K (.type "tuple") (.type "list") with | some true => some true | some false => PySem.W.kitAny K (.type "tuple") [.type "tuple"] | none => none) = _
    rw [show PySem.W.kitOne K (.type "tuple") (.type "list") = some false from kit_ty (by decide +kernel)]
    show (match PySem.W.kitOne K (.type "tuple") (.type "tuple") with | some true => some true | some false => some false | none => none) = _
    rw [show PySem.W.kitOne K (.type "tuple") (.type "tuple") = some true from kit_ty (by decide +kernel)]
theorem kAny_no {K : PySem.W.Frag} {t : Value} (k1 : kit K t "list" false) (k2 : kit K t "tuple" false) : PySem.W.kitAny K t [.type "list", .type "tuple"] = some false := by
  show (match PySem.W.kitOne K t (.type "list") with | some true => some true | some false => PySem.W.kitAny K t [.type "tuple"] | none => none) = _
  rw [show PySem.W.kitOne K t (.type "list") = some false from k1]
  show (match PySem.W.kitOne K t (.type "tuple") with | some true => some true | some false => some false | none => none) = _
  rw [show PySem.W.kitOne K t (.type "tuple") = some false from k2]
def spOrder (K : PySem.W.Frag) : Sp := fun vs H Q _ => ∃ a b ks, vs = [.ref a] ∧ SqE K b H a (ks.map V.str) ∧ ks.length ≤ 60 ∧ ∀ (ys : List Str) p H', ys.Perm (onceW ks) → sortedS ys = true → H p = none → Same H H' → H' p = some (.lst (ys.map V.str)) → Q (.ref p) H'
section
variable {P : Program} {w : World} {K : PySem.W.Frag} {mg : Str → Option Value} {base : Heap}
theorem sc_is_integer : FnScope ["value"] ["value"] (defScope s_is_integer) := ⟨rfl, rfl, rfl, by decide +kernel, rfl, by decide +kernel, by decide +kernel⟩
theorem ok_is_integer (D : DefK K mg "is_integer" s_is_integer) (T : Txt K mg) : Cal P w K mg base CX0 1 "is_integer" (spIsInt K) := by
  refine D.cal sc_is_integer (fun _ _ _ _ _ _ us hl => match us, hl with | [_], _ => rfl) (fun vs H Q E h => ?_) fun f cdv A outer s H vs Q E hr h => ?_
  · obtain ⟨x, t, b1, b2, rfl, _⟩ := h; rfl
  · obtain ⟨x, t, b1, b2, rfl, ty, k1, k2, q⟩ := h
    refine ⟨_, (pss_one (ps_ret (pe_and (pe_callB call_isi (by rfl) T.b_isinstance (by decide +kernel) (pa_cons (pv 0) (pa_cons (pe_ty (n := "int") (by rfl) T.b_int (by decide +kernel)) pa_nil))) (pe_one (pe_not (pe_callB call_isi (by rfl) T.b_isinstance (by decide +kernel) (pa_cons (pv 0) (pa_cons (pe_ty (n := "bool") (by rfl) T.b_bool (by decide +kernel)) pa_nil)))))))), ?_⟩
    refine ⟨_, rfl, x, .ty "int", t, _, b1, rfl, .ty "int", ty, k1, b1, rfl, ?_⟩
    cases b1 with
    | false => exact iteF q
    | true => exact iteT ⟨_, rfl, x, .ty "bool", t, _, b2, rfl, .ty "bool", ty, k2 rfl, b2, rfl, q⟩
theorem sc_is_word : FnScope ["value"] ["value"] (defScope s_is_word) := ⟨rfl, rfl, rfl, by decide +kernel, rfl, by decide +kernel, by decide +kernel⟩
theorem ok_is_word (D : DefK K mg "is_word" s_is_word) (T : Txt K mg) : Cal P w K mg base CX0 1 "is_word" (spWord K) := by
  refine D.cal sc_is_word (fun _ _ _ _ _ _ us hl => match us, hl with | [_], _ => rfl) (fun vs H Q E h => ?_) fun f cdv A outer s H vs Q E hr h => ?_
  · obtain ⟨y, rfl, _⟩ := h; rfl
  · obtain ⟨y, rfl, h⟩ := h
    refine ⟨_, (pss_cons (ps_if (PW.pt (pw_or (pt_not (pt_val (pe_callB call_isi (by rfl) T.b_isinstance (by decide +kernel) (pa_cons (pv 0) (pa_cons (pe_ty (n := "str") (by rfl) T.b_str (by decide +kernel)) pa_nil))))) (pw_or1 (pt_cmpR op_gt (pe_callB call_len_str (by rfl) T.b_len (by decide +kernel) (pa_cons (pv 0) pa_nil)) pe_int (nomark _))))) (pss_one (ps_ret pe_bl)) pss_nil)
      (pss_one (ps_ret (pe_and (pe_m0 F.slot_str_isascii F.type_str_isascii mt_isascii (pv 0)) (pe_and (pe_m0 F.slot_str_isalpha F.type_str_isalpha mt_isalpha (pv 0)) (pe_one (pe_m0 F.slot_str_islower F.type_str_islower mt_islower (pv 0)))))))), ?_⟩
    rcases h with ⟨z, rfl, hz, q⟩ | ⟨t, ty, k, q⟩
    · refine ⟨_, rfl, .str z, .ty "str", _, _, true, rfl, .ty "str", .base (.str z), kit_ty (by decide +kernel), _, rfl, iteF ?_⟩
      refine ⟨_, rfl, z, rfl, hz, _, _, rfl, rfl, _, rfl, ?_⟩
      unfold wordB at q
      by_cases c : z.length ≤ 8
      · refine iteFe (decide_eq_false (by omega)) ?_
        rw [decide_eq_true c] at q
        refine ⟨_, rfl, ⟨_, rfl⟩, z, rfl, rfl, trivial, _, rfl, ?_⟩
        cases h1 : PySem.Txt.isascii z with
        | false => rw [h1] at q; exact iteF q
        | true =>
          rw [h1] at q
          refine iteT ⟨_, rfl, ⟨_, rfl⟩, z, rfl, rfl, trivial, _, rfl, ?_⟩
          cases h2 : PySem.Txt.isalpha z with
          | false => rw [h2] at q; exact iteF q
          | true =>
            rw [h2] at q
            exact iteT ⟨_, rfl, ⟨_, rfl⟩, z, rfl, rfl, trivial, q⟩
      · refine iteTe (decide_eq_true (by omega)) ?_
        rw [decide_eq_false c] at q
        exact q
    · exact ⟨_, rfl, y, .ty "str", t, _, false, rfl, .ty "str", ty, k, _, rfl, iteT q⟩
theorem sc_in_order : FnScope ["words"] ["words"] (defScope s_in_order) := ⟨rfl, rfl, rfl, by decide +kernel, rfl, by decide +kernel, by decide +kernel⟩
theorem ok_order (D : DefK K mg "_in_order" s_in_order) (T : Txt K mg) : Cal P w K mg base CX0 1 "_in_order" (spOrder K) := by
  refine D.cal sc_in_order (fun _ _ _ _ _ _ us hl => match us, hl with | [_], _ => rfl) (fun vs H Q E h => ?_) fun f cdv A outer s H vs Q E hr h => ?_
  · obtain ⟨a, b, ks, rfl, _⟩ := h; rfl
  · obtain ⟨a, b, ks, rfl, sq, few, k⟩ := h
    refine ⟨_, (pss_one (ps_ret (pe_callB (cr_sortW rfl) (by rfl) T.b_sorted (by decide +kernel) (pa_cons (pe_callTy (cr_setW2 rfl) (by rfl) T.b_set (by decide +kernel) (pa_cons (pv 0) pa_nil)) pa_nil)))), ?_⟩
    have big : (1000 : Nat) < scanBound := by decide
    have ln := onceW_len ks
    refine ⟨_, rfl, a, ks, rfl, ?_, by omega, fun p np => ⟨p, onceW ks, rfl, upd_same, by omega, fun ys q pm so nq => ?_⟩⟩
    · cases b with
      | true => exact .inl sq
      | false => exact .inr sq
    · have s1 := same_new (o := SetWO P w p (onceW ks)) np
      exact k ys q _ pm so (s1.free nq) (same_new' s1 nq) upd_same
theorem sc_are_different_keys : FnScope ["value", "most", "key"] ["value", "most"] (defScope s_are_different_keys) := ⟨rfl, rfl, rfl, by decide +kernel, rfl, by decide +kernel, by decide +kernel⟩
theorem ok_keys (D : DefK K mg "are_different_keys" s_are_different_keys) (T : Txt K mg) (G_is_word : Cal P w K mg base CX0 1 "is_word" (spWord K)) : Cal P w K mg base CX0 2 "are_different_keys" (spKeys K) := by
  refine D.cal sc_are_different_keys (fun _ _ _ _ _ _ us hl => match us, hl with | [_, _], _ => rfl) (fun vs H Q E h => ?_) fun f cdv A outer s H vs Q E hr h => ?_
  · obtain ⟨y, most, rfl, _⟩ := h; rfl
  · obtain ⟨y, most, rfl, h⟩ := h
    refine ⟨_, (pss_cons (ps_if (PW.pt (pw_or (pt_not (pt_val (pe_callB call_isiT (by rfl) T.b_isinstance (by decide +kernel) (pa_cons (pv 0) (pa_cons (pe_tup (pa_cons (pe_ty (n := "list") (by rfl) T.b_list (by decide +kernel)) (pa_cons (pe_ty (n := "tuple") (by rfl) T.b_tuple (by decide +kernel)) pa_nil))) pa_nil))))) (pw_or1 (pt_cmpR op_gt (pe_callB call_len (by rfl) T.b_len (by decide +kernel) (pa_cons (pv 0) pa_nil)) (pv 1) (nomark _))))) (pss_one (ps_ret pe_bl)) pss_nil)
      (pss_one (ps_ret (pe_and (pe_callB (cr_all rfl) (by rfl) T.b_all (by decide +kernel) (pa_cons (pe_lc (own := [("key", 2)]) (g := gName 2) (by rfl) sc_are_different_keys.nd (pi_either (pv 0)) (blkOk_by (own := [("key", 2)]) (N := ["value", "most", "key"]) (sc := defScope s_are_different_keys) (by decide +kernel)) (fun _ _ _ _ _ => pg_name (i := 2) sc_are_different_keys.nd rfl (Or.inl rfl)) (fun _ _ _ _ _ => pts_nil) (fun _ _ _ _ _ => (pe_c G_is_word hr (by decide) rfl (pa_cons (pv 2) pa_nil)))) pa_nil)) (pe_one (pe_cmpR op_eq (pe_callB call_lenW (by rfl) T.b_len (by decide +kernel) (pa_cons (pe_callTy (cr_setW2 rfl) (by rfl) T.b_set (by decide +kernel) (pa_cons (pv 0) pa_nil)) pa_nil)) (pe_callB call_len (by rfl) T.b_len (by decide +kernel) (pa_cons (pv 0) pa_nil)) (nomark _))))))), ?_⟩
    rcases h with ⟨a, b, xs, rfl, sq, ty, few, its, k⟩ | ⟨t, ty, k1, k2, k⟩
    · refine ⟨_, rfl, by show 2 ≤ sizeLine; decide, fun tp ntp => ?_⟩
      have s1 := same_new (o := .tup [.ty "list", .ty "tuple"]) ntp
      have sq1 : SqE K b _ a xs := SqE.keep (b := b) sq s1
      refine ⟨.ref a, tp, [.ty "list", .ty "tuple"], _, [.type "list", .type "tuple"], true, rfl, upd_same, .cons (.ty _) (.cons (.ty _) .nil), ty _ s1, kAny_seq b, true, rfl, iteF ?_⟩
      generalize upd H tp (.tup [.ty "list", .ty "tuple"]) = H1 at *
      have lv : LenV K (.ref a) H1 xs.length := by
        cases b with
        | true => exact .inl ⟨xs, sq1, rfl⟩
        | false => exact .inr ⟨xs, sq1, rfl⟩
      refine ⟨_, rfl, .ref a, _, rfl, lv, _, rfl, _, _, rfl, rfl, _, rfl, ?_⟩
      unfold keysB at k
      by_cases c : most < (xs.length : Int)
      · rw [decide_eq_true c] at k ⊢
        exact iteT (k _ s1)
      · rw [decide_eq_false c] at k ⊢
        refine iteF ⟨_, rfl, a, b, xs, rfl, sq1, fun D nD => lc_either (K := K) (b := b) (a := a) (xs := xs) (fun i H' => Same H1 H' ∧ H' D = some (.lst ((xs.take i).map fun x => V.bl (flagV x)))) ⟨same_new nD, upd_same⟩ (fun _ H' _ z => SqE.keep (b := b) sq1 z.1) ?_ ?_⟩
        · intro i x H' hx ⟨s2, eD⟩
          have tk : xs.take (i + 1) = xs.take i ++ [x] := by rw [List.take_succ, hx]; rfl
          have nDH : H D = none := s1.free nD
          have up : Same H1 (upd H' D (.lst (((xs.take i).map fun x => V.bl (flagV x)) ++ [V.bl (flagV x)]))) := fun c o e => by rw [upd_ne (ne_of_none e nD)]; exact s2 c o e
          have eq : upd H' D (.lst (((xs.take i).map fun x => V.bl (flagV x)) ++ [V.bl (flagV x)])) D = some (.lst ((xs.take (i + 1)).map fun x => V.bl (flagV x))) := by rw [upd_same, tk, List.map_append]; rfl
          have sz : ((xs.take i).map fun x => V.bl (flagV x)).length < sizeLine := by
            rw [List.length_map, List.length_take, sizeLine_eq]; omega
          refine ⟨rfl, yes_if ⟨_, rfl, x, rfl, ?_⟩⟩
          rcases (its x (List.mem_of_getElem? hx)).keep (s1.trans s2) with ⟨z, rfl, hz⟩ | ⟨t, ty2, k2, nz⟩
          · exact .inl ⟨z, rfl, hz, _, eD, sz, up, eq⟩
          · have fl : flagV x = false := by
              cases x with
              | str z => exact absurd rfl (nz z)
              | _ => rfl
            rw [fl] at up eq
            exact .inr ⟨t, ty2 _ (Same.refl _), k2, _, eD, sz, up, eq⟩
        · rintro H' ⟨s2, eD⟩
          rw [List.take_length] at eD
          have mm : (xs.map flagV).map V.bl = xs.map fun x => V.bl (flagV x) := by rw [List.map_map]; rfl
          refine ⟨D, xs.map flagV, rfl, SqL.of (by rw [mm]; exact eD), _, rfl, ?_⟩
          have al : (xs.map flagV).all id = xs.all flagV := by rw [List.all_map]; rfl
          rw [al]
          cases c2 : xs.all flagV with
          | false =>
            rw [c2] at k
            exact iteF (k _ (s1.trans s2))
          | true =>
            rw [c2] at k
            have ex : (xs.map txV).map V.str = xs := by
              rw [List.map_map]
              refine (List.map_congr_left fun x hx => ?_).trans (List.map_id xs)
              have fx := List.all_eq_true.mp c2 x hx
              cases x with
              | str z => rfl
              | _ => cases fx
            have sq2 : SqE K b H' a ((xs.map txV).map V.str) := by rw [ex]; exact SqE.keep (b := b) sq1 s2
            have big : (1000 : Nat) < scanBound := by decide
            refine iteT ⟨_, rfl, a, xs.map txV, rfl, ?_, by rw [List.length_map]; omega, fun p np => ⟨p, _, rfl, upd_same, _, rfl, .ref a, xs.length, rfl, ?_, rfl, ?_⟩⟩
            · cases b with
              | true => exact .inl sq2
              | false => exact .inr sq2
            · have sq3 : SqE K b (upd H' p (SetWO P w p (onceW (xs.map txV)))) a xs := SqE.keep (b := b) (SqE.keep (b := b) sq1 s2) (same_new np)
              cases b with
              | true => exact .inl ⟨xs, sq3, rfl⟩
              | false => exact .inr ⟨xs, sq3, rfl⟩
            · have q := k _ ((s1.trans s2).trans (same_new (o := SetWO P w p (onceW (xs.map txV))) np))
              have e : decide (V.int ((onceW (xs.map txV)).length : Int) = V.int (xs.length : Int)) = decide ((onceW (xs.map txV)).length = xs.length) := by
                rw [Bool.eq_iff_iff, decide_eq_true_iff, decide_eq_true_iff]
                exact ⟨fun h => by have := V.int.inj h; omega, fun h => by rw [h]⟩
              show Q (.bl (decide (V.int ((onceW (xs.map txV)).length : Int) = V.int (xs.length : Int)))) _
              rw [e]
              exact q
    · refine ⟨_, rfl, by show 2 ≤ sizeLine; decide, fun tp ntp => ?_⟩
      have s1 := same_new (o := .tup [.ty "list", .ty "tuple"]) ntp
      exact ⟨y, tp, [.ty "list", .ty "tuple"], t, [.type "list", .type "tuple"], false, rfl, upd_same, .cons (.ty _) (.cons (.ty _) .nil), ty _ s1, kAny_no k1 k2, false, rfl, iteT (k _ s1)⟩
end
end K26C
namespace K26C
open PySem PySem.Spec PyProof.Rows L2 Jg
local macro_rules | `(tactic| walk_at "rd1") => `(tactic| (first
  | refine ⟨_, rfl, ?_⟩
  | refine ⟨_, _, rfl, rfl, ?_⟩
  | refine ⟨_, _, rfl, ?_⟩
  | refine ⟨rfl, ?_⟩
  | (refine ⟨show (0 : Int) < _ by omega, ?_⟩)
  | (refine ⟨Or.inl ⟨by omega, by omega⟩, ?_⟩)
  | (refine ⟨Or.inr ⟨by omega, by omega⟩, ?_⟩)
  | (refine ⟨(⟨by decide, by decide, by decide⟩ : CPow _ _), ?_⟩)
  | refine Or.inl ⟨_, rfl, ?_⟩
  | refine Or.inr ⟨_, rfl, ?_⟩
  | fail "rd"))
local macro_rules | `(tactic| walk_at "rd") => `(tactic| repeat' walk_at "rd1")
section
variable {P : Program} {w : World} {K : PySem.W.Frag} {mg : Str → Option Value} {base : Heap}
theorem sc_is_use : FnScope ["value", "accepted", "used"] ["value"] (defScope s_is_use) := ⟨rfl, rfl, rfl, by decide +kernel, rfl, by decide +kernel, by decide +kernel⟩
theorem ok_use_ (D : DefK K mg "_is_use" s_is_use) (T : Txt K mg) (G_is_word : Cal P w K mg base CX0 1 "is_word" (spWord K)) (G_are_different_keys : Cal P w K mg base CX0 2 "are_different_keys" (spKeysI K)) : Cal P w K mg base CX0 3 "_is_use" (spUse K) := by
  refine D.cal sc_is_use (fun _ _ _ _ _ _ us hl => match us, hl with | [_], _ => rfl) (fun vs H Q E h => ?_) fun f cdv A outer s H vs Q E hr h => ?_
  · obtain ⟨y, rfl, _⟩ := h; rfl
  · obtain ⟨y, rfl, h⟩ := h
    refine ⟨_, (pss_cons (ps_if (PW.pt (pw_or (pt_not (pt_val (pe_callB call_isi (by rfl) T.b_isinstance (by decide +kernel) (pa_cons (pv 0) (pa_cons (pe_ty (n := "tuple") (by rfl) T.b_tuple (by decide +kernel)) pa_nil))))) (pw_or1 (pt_cmpR op_ne (pe_callB call_len_seq (by rfl) T.b_len (by decide +kernel) (pa_cons (pv 0) pa_nil)) pe_int (nomark _))))) (pss_one (ps_ret pe_bl)) pss_nil)
      (pss_cons (ps_asg (pv 0) (pg_tup rfl (pgs_cons (pg_name (i := 1) sc_is_use.nd rfl (Or.inl rfl)) (pgs_cons (pg_name (i := 2) sc_is_use.nd rfl (Or.inl rfl)) pgs_nil))))
      (pss_one (ps_ret (pe_and (pe_c G_are_different_keys hr (by decide) rfl (pa_cons (pv 1) (pa_cons (pe_gc rfl T.g_MOST_ACCEPTED) pa_nil))) (pe_one (pe_c G_is_word hr (by decide) rfl (pa_cons (pv 2) pa_nil)))))))), ?_⟩
    rcases h with ⟨t, ty, kt, q⟩ | ⟨tp, xs, rfl, et, n2, q⟩ | ⟨tp, a, u, fa, fu, rfl, et, ka, wu, k⟩
    · exact ⟨_, rfl, y, .ty "tuple", t, _, false, rfl, .ty "tuple", ty, kt, false, rfl, iteT q⟩
    · refine ⟨_, rfl, .ref tp, .ty "tuple", _, _, true, rfl, .ty "tuple", .base (.tup et), kit_ty (by decide +kernel), true, rfl, iteF ?_⟩
      refine ⟨_, rfl, tp, _, rfl, .inr (SqT.of et), rfl, _, rfl, iteTe (show (!decide (V.int (xs.length : Int) = V.int 2)) = true by rw [decide_eq_false fun z => n2 (by injection z with z; omega)]; rfl) q⟩
    · refine ⟨_, rfl, .ref tp, .ty "tuple", _, _, true, rfl, .ty "tuple", .base (.tup et), kit_ty (by decide +kernel), true, rfl, iteF ?_⟩
      refine ⟨_, rfl, tp, _, rfl, .inr (SqT.of et), rfl, _, rfl, iteF ?_⟩
      refine ⟨_, rfl, tp, _, rfl, SqT.of et, rfl, _, _, rfl, _, _, rfl, rfl, ?_⟩
      refine ⟨_, rfl, ka.i H _ (.refl _) fun H' s1 => ⟨_, rfl, ?_⟩⟩
      have q := k H' s1
      cases fa with
      | false => exact iteF q
      | true =>
        refine iteT ⟨_, rfl, u, rfl, ?_⟩
        rcases wu.keep s1 with ⟨z, rfl, hz, e⟩ | ⟨e, t, ty, kt⟩
        · rw [e] at q; exact .inl ⟨z, rfl, hz, q⟩
        · rw [e] at q; exact .inr ⟨t, ty _ (.refl _), kt, q⟩
theorem ok_use (D : DefK K mg "_is_use" s_is_use) (T : Txt K mg) (G_is_word : Cal P w K mg base CX0 1 "is_word" (spWord K)) (G_are_different_keys : Cal P w K mg base CX0 2 "are_different_keys" (spKeys K)) : Cal P w K mg base CX0 3 "_is_use" (spUse K) :=
  ok_use_ D T G_is_word (by unfold spKeysI; exact G_are_different_keys)
end
end K26C
namespace K26C
open PySem PySem.Spec PyProof.Rows L2 Jg
local macro_rules | `(tactic| walk_at "rd1") => `(tactic| (first
  | refine ⟨_, rfl, ?_⟩
  | refine ⟨_, _, rfl, rfl, ?_⟩
  | refine ⟨_, _, rfl, ?_⟩
  | refine ⟨rfl, ?_⟩
  | (refine ⟨show (0 : Int) < _ by omega, ?_⟩)
  | (refine ⟨Or.inl ⟨by omega, by omega⟩, ?_⟩)
  | (refine ⟨Or.inr ⟨by omega, by omega⟩, ?_⟩)
  | (refine ⟨(⟨by decide, by decide, by decide⟩ : CPow _ _), ?_⟩)
  | refine Or.inl ⟨_, rfl, ?_⟩
  | refine Or.inr ⟨_, rfl, ?_⟩
  | fail "rd"))
local macro_rules | `(tactic| walk_at "rd") => `(tactic| repeat' walk_at "rd1")
theorem lc_w {J : It} {n : Nat} {G : Hp → Prop} {Y : Nat → Hp → V → Hp → Prop} (W : Walk J n G Y) {g : TG} {tt : TT} {te : TE} {vs : List Nat} {σ : L2.St} {H1 : Hp} {D : Addr} {Qd : Hp → Prop} (Pv : Nat → Hp → Prop) (h0 : Pv 0 (upd H1 D (.lst []))) (hG : ∀ i H, Pv i H → G H)
    (hs : ∀ i H x H', i < n → Pv i H → Y i H x H' → g x (wipe σ vs) H' fun σ2 H2 => wipe σ2 vs = wipe σ vs ∧ tt σ2 H2 fun b H3 =>
      if b = true then te σ2 H3 fun y H4 => ∃ acc, H4 D = some (.lst acc) ∧ acc.length < sizeLine ∧ Pv (i + 1) (upd H4 D (.lst (acc ++ [y]))) else Pv (i + 1) H3) (hd : ∀ H, Pv n H → Qd H) : LcAsk J g tt te vs σ H1 D Qd := by
  refine ⟨fun i m H => m = n - i ∧ i ≤ n ∧ Pv i H, ⟨_, rfl, Nat.zero_le _, h0⟩, ?_⟩
  rintro i m H ⟨rfl, hi, p⟩
  rcases Nat.lt_or_ge i n with lt | ge
  · exact .inr ⟨W.goes i H lt (hG i H p), Pv (i + 1), (fun H' p' => ⟨_, by omega, rfl, lt, p'⟩), fun x H' y => hs i H x H' lt p (W.yields i H x H' lt (hG i H p) y)⟩
  · have e : i = n := by omega
    subst e
    exact .inl ⟨W.stops H (hG i H p), hd H p⟩
structure RowOk (K : PySem.W.Frag) (d : Addr) (H : Hp) (r : Row) : Prop where
  at_ : H r.t = some (.tup [.ref r.a, .str r.u])
  nt : r.t ≠ d
  na : r.a ≠ d
  sq : SqE K r.b H r.a (r.ks.map V.str)
  ty : ∀ H', SameB d H H' → TyX K H' (.ref r.a) (.type (if r.b then "list" else "tuple"))
  few : r.ks.length ≤ 500
  sh : ∀ k ∈ r.ks, k.length ≤ sizeLine
  zu : r.z.length ≤ sizeLine ∧ r.u.length ≤ sizeLine
def rowB (r : Row) : Bool := wordB r.z && (keysB (r.ks.map V.str) 8 && wordB r.u)
def dictOf (rows : List Row) : List (Key × V) := rows.map fun r => (Sum.inr r.z, V.ref r.t)
theorem val_row : ∀ (rows : List Row) (r : Row), (rows.map (·.z)).Nodup → r ∈ rows → valV (dictOf rows) (Sum.inr r.z) = some (.ref r.t) := by
  intro rows
  induction rows with
  | nil => intro r _ h; cases h
  | cons p rest ih =>
    intro r nd hr
    rw [List.map_cons, List.nodup_cons] at nd
    show valV ((Sum.inr p.z, V.ref p.t) :: dictOf rest) (Sum.inr r.z) = _
    rcases List.mem_cons.mp hr with e | h
    · rw [e]; exact valV_pos (p := (Sum.inr p.z, V.ref p.t)) rfl
    · have ne : ¬ ((Sum.inr p.z, V.ref p.t) : Key × V).1 = Sum.inr r.z := fun q => nd.1 (List.mem_map.mpr ⟨r, h, (Sum.inr.inj q).symm⟩)
      rw [valV_neg ne]
      exact ih r nd.2 h
theorem SqE.lock {K : PySem.W.Frag} {b : Bool} {d a : Addr} {H H' : Hp} {xs : List V} (h : SqE K b H a xs) (s : SameB d H H') (n : a ≠ d) : SqE K b H' a xs := by
  cases b with
  | true =>
    rcases (show SqL K H a xs from h) with (h | ⟨o, h⟩) | h
    · exact .inl (.inl (s _ _ h n))
    · exact .inl (.inr ⟨o, s _ _ h n⟩)
    · exact .inr h
  | false =>
    rcases (show SqT K H a xs from h) with (h | ⟨o, h⟩) | h
    · exact .inl (.inl (s _ _ h n))
    · exact .inl (.inr ⟨o, s _ _ h n⟩)
    · exact .inr h
theorem val_mem {kvs : List (Key × V)} {k : Key} {v : V} (nd : (kvs.map (·.1)).Nodup) (h : (k, v) ∈ kvs) : valV kvs k = some v := by
  induction kvs with
  | nil => cases h
  | cons p rest ih =>
    rw [List.map_cons, List.nodup_cons] at nd
    rcases List.mem_cons.mp h with e | h
    · rw [← e]; exact valV_pos (p := (k, v)) rfl
    · have ne : ¬ p.1 = k := fun q => nd.1 (List.mem_map.mpr ⟨(k, v), h, q.symm⟩)
      rw [valV_neg ne]
      exact ih nd.2 h
theorem ent_len {K : PySem.W.Frag} {d : Addr} {H : Hp} : ∀ {kvs : List (Key × V)} {fs : List Bool}, Paired (EntB K d H) kvs fs → kvs.length = fs.length
  | _, _, .nil => rfl
  | _, _, .cons _ r => by rw [List.length_cons, List.length_cons, ent_len r]
theorem ent_get {K : PySem.W.Frag} {d : Addr} {H : Hp} : ∀ {kvs : List (Key × V)} {fs : List Bool} {i : Nat} {e : Key × V}, Paired (EntB K d H) kvs fs → kvs[i]? = some e → ∃ f, fs[i]? = some f ∧ EntB K d H e f
  | _, _, i, _, .nil, h => by simp at h
  | _, _, 0, _, .cons a _, h => by
    have h' := Option.some.inj h
    subst h'
    exact ⟨_, rfl, a⟩
  | _, _, i + 1, _, .cons _ r, h => let ⟨f, a, b⟩ := ent_get (i := i) r (by simpa using h); ⟨f, by simpa using a, b⟩
section
variable {P : Program} {w : World} {K : PySem.W.Frag} {mg : Str → Option Value} {base : Heap}
theorem sc_are_roles : FnScope ["value", "role"] ["value"] (defScope s_are_roles) := ⟨rfl, rfl, rfl, by decide +kernel, rfl, by decide +kernel, by decide +kernel⟩
theorem ok_roles_ (D : DefK K mg "_are_roles" s_are_roles) (T : Txt K mg) (G_is_word : Cal P w K mg base CX0 1 "is_word" (spWord K)) (G_is_use : Cal P w K mg base CX0 3 "_is_use" (spUseI K)) : Cal P w K mg base CX0 4 "_are_roles" (spRoles P w K) := by
  refine D.cal sc_are_roles (fun _ _ _ _ _ _ us hl => match us, hl with | [_], _ => rfl) (fun vs H Q E h => ?_) fun f cdv A outer s H vs Q E hr h => ?_
  · obtain ⟨y, rfl, _⟩ := h; rfl
  · obtain ⟨y, rfl, h⟩ := h
    refine ⟨_, (pss_cons (ps_if (PW.pt (pw_or (pt_not (pt_val (pe_callB (r := rIsiE P w K) call_isiE (by rfl) T.b_isinstance (by decide +kernel) (pa_cons (pv 0) (pa_cons (pe_ty (n := "dict") (by rfl) T.b_dict (by decide +kernel)) pa_nil))))) (pw_or1 (pt_not (pt_chain op_le op_le pe_int (pe_callB (r := rLenE P w) call_lenE (by rfl) T.b_len (by decide +kernel) (pa_cons (pv 0) pa_nil)) (pe_gc rfl T.g_MOST_ROLES)))))) (pss_one (ps_ret pe_bl)) pss_nil)
      (pss_one (ps_ret (pe_lock (pe_callB (cr_all rfl) (by rfl) T.b_all (by decide +kernel) (pa_cons (pe_lc (own := [("role", 1)]) (g := gName 1) (by rfl) sc_are_roles.nd (pi_keysE (pv 0)) (blkOk_by (own := [("role", 1)]) (N := ["value", "role"]) (sc := defScope s_are_roles) (by decide +kernel)) (fun _ _ _ _ _ => pg_name (i := 1) sc_are_roles.nd rfl (Or.inl rfl)) (fun _ _ _ _ _ => pts_nil) (fun _ _ _ _ _ => (pe_and (pe_c G_is_word hr (by decide) rfl (pa_cons (pv 1) pa_nil)) (pe_one (pe_c G_is_use hr (by decide) rfl (pa_cons (pe_dget (Nat.lt_of_le_of_lt (Nat.add_le_add_left (by decide : 1 ≤ 64) _) hr.units) (pv 0) (pv 1) (fun _ _ => rfl)) pa_nil)))))) pa_nil)))))), ?_⟩
    have lock : ∀ {d : Addr} {o : Obj} {u : HO}, H d = some u → SameB d H (upd H d (.frz o u)) ∧ ∀ H', Same (upd H d (.frz o u)) H' → Same H (upd H' d u) := fun {d o u} ed =>
      ⟨fun q o e n => by rw [upd_ne n]; exact e, fun H' s q o e => by
        by_cases c : q = d
        · rw [c] at e ⊢
          rw [upd_same, ← ed]; exact e
        · rw [upd_ne c]
          exact s _ _ (by rw [upd_ne c]; exact e)⟩
    rcases h with ⟨t, ty, kt, q⟩ | ⟨d, kvs, rfl, ed, bad, q⟩ | ⟨d, kvs, fs, rfl, ed, n1, n3, nd, pr, k⟩ | ⟨d, rfl, ed, k⟩
    · exact ⟨_, rfl, .inl ⟨y, .ty "dict", t, _, false, rfl, .ty "dict", ty, kt, false, rfl, iteT q⟩⟩
    · refine ⟨_, rfl, .inl ⟨.ref d, .ty "dict", _, _, true, rfl, .ty "dict", .base (.dK ed), kit_ty (by decide +kernel), true, rfl, iteF ?_⟩⟩
      refine ⟨_, rfl, .inl ⟨d, _, rfl, ed, 1, (kvs.length : Int), rfl, rfl, _, rfl, ?_⟩⟩
      rcases bad with b | b
      · exact iteFe (decide_eq_false (by omega)) ⟨_, rfl, iteT q⟩
      · by_cases c : (1 : Int) ≤ (kvs.length : Int)
        · exact iteTe (decide_eq_true c) ⟨_, _, rfl, rfl, _, rfl, iteTe (by rw [decide_eq_false (by omega)]; rfl) q⟩
        · exact iteFe (decide_eq_false c) ⟨_, rfl, iteT q⟩
    · refine ⟨_, rfl, .inl ⟨.ref d, .ty "dict", _, _, true, rfl, .ty "dict", .base (.dK ed), kit_ty (by decide +kernel), true, rfl, iteF ?_⟩⟩
      refine ⟨_, rfl, .inl ⟨d, _, rfl, ed, 1, (kvs.length : Int), rfl, rfl, _, rfl, ?_⟩⟩
      refine iteTe (decide_eq_true (by omega)) ⟨_, _, rfl, rfl, _, rfl, iteFe (by rw [decide_eq_true (by omega)]; rfl) ?_⟩
      refine ⟨d, _, ed, trivial, fun od => ?_⟩
      have el : upd H d (.frz od (.dK kvs)) d = some (.frz od (.dK kvs)) := upd_same
      obtain ⟨sl, back⟩ := lock (o := od) ed
      generalize upd H d (.frz od (.dK kvs)) = HL at *
      have fl := ent_len pr
      refine ⟨_, rfl, d, od, rfl, .inl ⟨_, el, fun D nD => lc_w walk_keys (fun i H' => Same HL H' ∧ H' D = some (.lst ((fs.take i).map V.bl))) ⟨same_new nD, upd_same⟩ (fun i H' z => z.1 _ _ el) ?_ ?_⟩⟩
      · rintro i H' x H2 lt ⟨s2, eD⟩ ⟨rfl, kk, vv, ek, rfl⟩
        obtain ⟨f0, ef, en⟩ := ent_get pr ek
        have tk : fs.take (i + 1) = fs.take i ++ [f0] := by rw [List.take_succ, ef]; rfl
        have l3 : ((fs.take i).map V.bl).length < sizeLine := by rw [List.length_map, List.length_take, sizeLine_eq]; omega
        have fin : ∀ H4, Same H2 H4 → ∃ acc, H4 D = some (.lst acc) ∧ acc.length < sizeLine ∧ Same HL (upd H4 D (.lst (acc ++ [V.bl f0]))) ∧ upd H4 D (.lst (acc ++ [V.bl f0])) D = some (.lst ((fs.take (i + 1)).map V.bl)) := fun H4 s4 =>
          ⟨_, s4 _ _ eD, l3, (fun q o e => by rw [upd_ne (ne_of_none e nD)]; exact s4 _ _ (s2 _ _ e)), by rw [upd_same, tk, List.map_append]; rfl⟩
        have sL : SameB d H H2 := fun q o e n => s2 _ _ (sl q o e n)
        refine ⟨rfl, yes_if ?_⟩
        rcases en with ⟨z, ez, hz, c⟩ | ⟨i0, ez, c⟩
        · have ez' : kk = .inr z := ez
          subst ez'
          refine ⟨_, rfl, .str z, rfl, .inl ⟨z, rfl, hz, _, rfl, ?_⟩⟩
          rcases c with ⟨wz, rfl⟩ | ⟨wz, ub⟩
          · rw [wz]
            exact iteF (fin _ (.refl _))
          · rw [wz]
            refine iteT ⟨_, rfl, _, rfl, d, vv, rfl, .inl ⟨kvs, .inr z, .inr ⟨od, s2 _ _ el⟩, rfl, (val_mem nd (List.mem_of_getElem? ek)).symm⟩, ub.i H2 _ sL fun H' s' => fin H' s'⟩
        · have ez' : kk = .inl i0 := ez
          subst ez' c
          exact ⟨_, rfl, .int i0, rfl, .inr ⟨_, .base (.int _), kit_ty (by decide +kernel), _, rfl, iteF (fin _ (.refl _))⟩⟩
      · rintro H' ⟨s2, eD⟩
        rw [fl, List.take_length] at eD
        refine ⟨D, fs, rfl, SqL.of eD, s2 _ _ el, ?_⟩
        exact k _ (back _ s2)
    · refine ⟨_, rfl, .inr ⟨d, rfl, ed, true, rfl, iteF ?_⟩⟩
      refine ⟨_, rfl, .inr ⟨d, rfl, ed, 1, 1, rfl, rfl, _, rfl, ?_⟩⟩
      refine iteTe (decide_eq_true (by omega)) ⟨_, _, rfl, rfl, _, rfl, iteFe (by rw [decide_eq_true (by omega)]; rfl) ?_⟩
      refine ⟨d, _, ed, trivial, fun od => ?_⟩
      have el : upd H d (.frz od (NkO P w d)) d = some (.frz od (NkO P w d)) := upd_same
      obtain ⟨sl, back⟩ := lock (o := od) ed
      generalize upd H d (.frz od (NkO P w d)) = HL at *
      refine ⟨_, rfl, d, od, rfl, .inr ⟨el, fun D nD => lc_w walk_none (fun i H' => Same HL H' ∧ H' D = some (.lst (([false].take i).map V.bl))) ⟨same_new nD, upd_same⟩ (fun i H' z => z.1 _ _ el) ?_ ?_⟩⟩
      · rintro i H' x H2 lt ⟨s2, eD⟩ ⟨rfl, rfl⟩
        obtain rfl : i = 0 := by omega
        refine ⟨rfl, yes_if ⟨_, rfl, .non, rfl, .inr ⟨_, .base .non, kit_ty (by decide +kernel), _, rfl, iteF ?_⟩⟩⟩
        exact ⟨_, eD, by show 0 < sizeLine; decide, (fun q o e => by rw [upd_ne (ne_of_none e nD)]; exact s2 _ _ e), upd_same⟩
      · rintro H' ⟨s2, eD⟩
        refine ⟨D, [false], rfl, SqL.of eD, s2 _ _ el, ?_⟩
        exact k _ (back _ s2)
theorem ok_roles (D : DefK K mg "_are_roles" s_are_roles) (T : Txt K mg) (G_is_word : Cal P w K mg base CX0 1 "is_word" (spWord K)) (G_is_use : Cal P w K mg base CX0 3 "_is_use" (spUse K)) : Cal P w K mg base CX0 4 "_are_roles" (spRoles P w K) :=
  ok_roles_ D T G_is_word (by unfold spUseI; exact G_is_use)
end
end K26C
namespace K26C
open PySem PySem.Spec PyProof.Rows L2 Jg
local macro_rules | `(tactic| walk_at "rd1") => `(tactic| (first
  | refine ⟨_, rfl, ?_⟩
  | refine ⟨_, _, rfl, rfl, ?_⟩
  | refine ⟨_, _, rfl, ?_⟩
  | refine ⟨rfl, ?_⟩
  | (refine ⟨show (0 : Int) < _ by omega, ?_⟩)
  | (refine ⟨Or.inl ⟨by omega, by omega⟩, ?_⟩)
  | (refine ⟨Or.inr ⟨by omega, by omega⟩, ?_⟩)
  | (refine ⟨(⟨by decide, by decide, by decide⟩ : CPow _ _), ?_⟩)
  | refine Or.inl ⟨_, rfl, ?_⟩
  | refine Or.inr ⟨_, rfl, ?_⟩
  | fail "rd"))
local macro_rules | `(tactic| walk_at "rd") => `(tactic| repeat' walk_at "rd1")
def wrongV (f1 f2 f3 f4 : Bool) : V := if f1 = false then .str "roles" else if f2 = false then .str "vouchers" else if f3 = false then .str "needed" else if f4 = false then .str "signers" else .non
def spWrong (P : Program) (w : World) (K : PySem.W.Frag) : Sp := fun vs H Q _ => ∃ r v n s f1 f2 f3 f4, vs = [r, v, n, s] ∧ RolesIs P w K H r f1 ∧ KeysIs K H v 4 f2 ∧ NeedIs K H n f3 ∧ ((s = .non ∧ f4 = true) ∨ (s ≠ .non ∧ KeysIs K H s 4 f4)) ∧ ∀ H', Same H H' → Q (wrongV f1 f2 f3 f4) H'
section
variable {P : Program} {w : World} {K : PySem.W.Frag} {mg : Str → Option Value} {base : Heap}
theorem sc_wrong_part : FnScope ["roles", "vouchers", "needed", "signers"] ["roles", "vouchers", "needed", "signers"] (defScope s_wrong_part) := ⟨rfl, rfl, rfl, by decide +kernel, rfl, by decide +kernel, by decide +kernel⟩
theorem ok_wrong_ (D : DefK K mg "_wrong_part" s_wrong_part) (T : Txt K mg) (G_is_integer : Cal P w K mg base CX0 1 "is_integer" (spIsInt K)) (G_are_different_keys : Cal P w K mg base CX0 2 "are_different_keys" (spKeysI K)) (G_are_roles : Cal P w K mg base CX0 4 "_are_roles" (spRolesI P w K)) : Cal P w K mg base CX0 5 "_wrong_part" (spWrong P w K) := by
  refine D.cal sc_wrong_part (fun _ _ _ _ _ _ us hl => match us, hl with | [_, _, _, _], _ => rfl) (fun vs H Q E h => ?_) fun f cdv A outer s H vs Q E hr h => ?_
  · obtain ⟨r, v, n, s, f1, f2, f3, f4, rfl, _⟩ := h; rfl
  · obtain ⟨r, v, n, sg, f1, f2, f3, f4, rfl, a1, a2, a3, a4, k⟩ := h
    refine ⟨_, (pss_cons (ps_if (pt_not (pt_val (pe_c G_are_roles hr (by decide) rfl (pa_cons (pv 0) pa_nil)))) (pss_one (ps_ret pe_str)) pss_nil)
      (pss_cons (ps_if (pt_not (pt_val (pe_c G_are_different_keys hr (by decide) rfl (pa_cons (pv 1) (pa_cons (pe_gc rfl T.g_MOST_VOUCHERS) pa_nil))))) (pss_one (ps_ret pe_str)) pss_nil)
      (pss_cons (ps_if (PW.pt (pw_or (pt_not (pt_val (pe_c G_is_integer hr (by decide) rfl (pa_cons (pv 2) pa_nil)))) (pw_or1 (pt_not (pt_chain op_le op_le pe_int (pv 2) (pe_gc rfl T.g_MOST_NEEDED)))))) (pss_one (ps_ret pe_str)) pss_nil)
      (pss_cons (ps_if (PW.pt (pw_and (pt_cmpR op_notN (pv 3) pe_non (nomark _)) (pw_and1 (pt_not (pt_val (pe_c G_are_different_keys hr (by decide) rfl (pa_cons (pv 3) (pa_cons (pe_gc rfl T.g_MOST_VOUCHERS) pa_nil)))))))) (pss_one (ps_ret pe_str)) pss_nil)
      (pss_one (ps_ret pe_non)))))), ?_⟩
    refine ⟨_, rfl, a1.i H _ (Same.refl _) fun H1 s1 => ⟨_, rfl, ?_⟩⟩
    cases f1 with
    | false => exact iteT (k _ s1)
    | true =>
      refine iteF ⟨_, rfl, a2.i H1 _ s1 fun H2 s2 => ⟨_, rfl, ?_⟩⟩
      have s12 := s1.trans s2
      cases f2 with
      | false => exact iteT (k _ s12)
      | true =>
        refine iteF ?_
        rcases a3 with ⟨i, rfl, e3⟩ | ⟨rfl, t, b1, b2, ty, k1, k2, e⟩
        · refine ⟨_, rfl, .int i, _, true, false, rfl, .base (.int i), kii, fun _ => kib, true, rfl, iteF ?_⟩
          refine ⟨_, rfl, 0, i, rfl, rfl, _, rfl, ?_⟩
          by_cases c1 : 0 ≤ i
          · refine iteTe (decide_eq_true c1) ⟨_, _, rfl, rfl, _, rfl, ?_⟩
            by_cases c2 : i ≤ 4
            · rw [decide_eq_true c1, decide_eq_true c2] at e3
              subst e3
              refine iteFe (by rw [decide_eq_true c2]; rfl) ⟨_, rfl, rfl, _, rfl, ?_⟩
              rcases a4 with ⟨rfl, rfl⟩ | ⟨nn, a4⟩
              · exact iteF (k _ s12)
              · refine iteTe (by rw [decide_eq_false nn]; rfl) ⟨_, rfl, a4.i H2 _ s12 fun H3 s3 => ⟨_, rfl, ?_⟩⟩
                cases f4 with
                | false => exact iteT (k _ (s12.trans s3))
                | true => exact iteF (k _ (s12.trans s3))
            · rw [decide_eq_false c2, Bool.and_false] at e3
              subst e3
              exact iteTe (by rw [decide_eq_false c2]; rfl) (k _ s12)
          · rw [decide_eq_false c1, Bool.false_and] at e3
            subst e3
            exact iteFe (decide_eq_false c1) ⟨_, rfl, iteT (k _ s12)⟩
        · refine ⟨_, rfl, n, t, b1, b2, rfl, ty _ s12, k1, k2, _, rfl, ?_⟩
          rw [e]
          exact iteT (k _ s12)
theorem ok_wrong (D : DefK K mg "_wrong_part" s_wrong_part) (T : Txt K mg) (G_is_integer : Cal P w K mg base CX0 1 "is_integer" (spIsInt K)) (G_are_different_keys : Cal P w K mg base CX0 2 "are_different_keys" (spKeys K)) (G_are_roles : Cal P w K mg base CX0 4 "_are_roles" (spRoles P w K)) : Cal P w K mg base CX0 5 "_wrong_part" (spWrong P w K) :=
  ok_wrong_ D T G_is_integer (by unfold spKeysI; exact G_are_different_keys) (by unfold spRolesI; exact G_are_roles)
end
end K26C
namespace K26C
open PySem PySem.Spec PyProof.Rows L2 Jg
local macro_rules | `(tactic| walk_at "rd1") => `(tactic| (first
  | refine ⟨_, rfl, ?_⟩
  | refine ⟨_, _, rfl, rfl, ?_⟩
  | refine ⟨_, _, rfl, ?_⟩
  | refine ⟨rfl, ?_⟩
  | (refine ⟨show (0 : Int) < _ by omega, ?_⟩)
  | (refine ⟨Or.inl ⟨by omega, by omega⟩, ?_⟩)
  | (refine ⟨Or.inr ⟨by omega, by omega⟩, ?_⟩)
  | (refine ⟨(⟨by decide, by decide, by decide⟩ : CPow _ _), ?_⟩)
  | refine Or.inl ⟨_, rfl, ?_⟩
  | refine Or.inr ⟨_, rfl, ?_⟩
  | fail "rd"))
local macro_rules | `(tactic| walk_at "rd") => `(tactic| repeat' walk_at "rd1")
theorem same_mut {H H1 : Hp} {p : Addr} {o : HO} (s : Same H H1) (h : H p = none) : Same H (upd H1 p o) := fun b u e => by rw [upd_ne (ne_of_none e h)]; exact s b u e
theorem KLOk.its {K : PySem.W.Frag} {H : Hp} {l : KL} (h : KLOk K H l) : ∀ x ∈ l.ks.map V.str, ItOk K H x := fun x hx => by
  obtain ⟨z, hz, rfl⟩ := List.mem_map.mp hx
  exact .inl ⟨z, rfl, h.sh z hz⟩
theorem KLOk.is {K : PySem.W.Frag} {H : Hp} {l : KL} (h : KLOk K H l) (m : Int) : KeysIs K H (.ref l.a) m (keysB (l.ks.map V.str) m) := fun H' Q s q =>
  ⟨.ref l.a, m, rfl, .inl ⟨l.a, l.b, _, rfl, (h.keep s).sq, (h.keep s).ty, by rw [List.length_map]; exact h.few, (h.keep s).its, q⟩⟩
theorem row_ent {K : PySem.W.Frag} {d : Addr} {H : Hp} {r : Row} (R : RowOk K d H r) : EntB K d H (.inr r.z, .ref r.t) (rowB r) := by
  refine .inl ⟨r.z, rfl, R.zu.1, ?_⟩
  unfold rowB
  cases c : wordB r.z with
  | false => exact .inl ⟨rfl, rfl⟩
  | true =>
    refine .inr ⟨rfl, fun H' Q s q => ⟨_, rfl, .inr (.inr ⟨r.t, .ref r.a, .str r.u, keysB (r.ks.map V.str) 8, wordB r.u, rfl, s _ _ R.at_ R.nt, fun H2 Q2 s2 q2 => ⟨.ref r.a, 8, rfl, .inl ⟨r.a, r.b, r.ks.map V.str, rfl, SqE.keep (SqE.lock (b := r.b) R.sq s R.na) s2, fun H3 s3 => R.ty H3 fun b o e n => s3 _ _ (s2 _ _ (s b o e n)), by rw [List.length_map]; exact R.few, fun x hx => ?_, q2⟩⟩, .inl ⟨r.u, rfl, R.zu.2, rfl⟩, q⟩)⟩⟩
    obtain ⟨z, hz, rfl⟩ := List.mem_map.mp hx
    exact .inl ⟨z, rfl, R.sh z hz⟩
theorem rows_ent {K : PySem.W.Frag} {d : Addr} {H : Hp} : ∀ {rows : List Row}, (∀ r ∈ rows, RowOk K d H r) → Paired (EntB K d H) (dictOf rows) (rows.map rowB)
  | [], _ => .nil
  | r :: rest, h => .cons (row_ent (h r List.mem_cons_self)) (rows_ent fun q hq => h q (List.mem_cons_of_mem _ hq))
theorem ents_keep {K : PySem.W.Frag} {d : Addr} {H H' : Hp} (s : SameB d H H') : ∀ {kvs : List (Key × V)} {fs : List Bool}, Paired (EntB K d H) kvs fs → Paired (EntB K d H') kvs fs
  | _, _, .nil => .nil
  | _, _, .cons a r => .cons (a.keep s) (ents_keep s r)
theorem roles_of {P : Program} {w : World} {K : PySem.W.Frag} {H : Hp} {d : Addr} {kvs : List (Key × V)} {fs : List Bool} (ed : H d = some (.dK kvs)) (h1 : 1 ≤ kvs.length) (h3 : kvs.length ≤ 3) (nd : (kvs.map (·.1)).Nodup) (pr : Paired (EntB K d H) kvs fs) : RolesIs P w K H (.ref d) (fs.all id) := fun H' Q s q =>
  ⟨_, rfl, .inr (.inr (.inl ⟨d, kvs, fs, rfl, s _ _ ed, h1, h3, nd, ents_keep (fun b o e _ => s b o e) pr, q⟩))⟩
theorem roles_is {P : Program} {w : World} {K : PySem.W.Frag} {H : Hp} {d : Addr} {rows : List Row} (ed : H d = some (.dK (dictOf rows))) (h1 : 1 ≤ rows.length) (h3 : rows.length ≤ 3) (nd : (rows.map (·.z)).Nodup) (ok : ∀ r ∈ rows, RowOk K d H r) : RolesIs P w K H (.ref d) (rows.all rowB) := by
  have dl : (dictOf rows).length = rows.length := List.length_map ..
  have al : (rows.map rowB).all id = rows.all rowB := by rw [List.all_map]; rfl
  rw [← al]
  refine roles_of ed (by omega) (by omega) ?_ (rows_ent ok)
  have e : (dictOf rows).map (·.1) = (rows.map (·.z)).map Sum.inr := by unfold dictOf; rw [List.map_map, List.map_map]; rfl
  rw [e]
  exact List.pairwise_map.mpr (List.Pairwise.imp (fun h q => h (Sum.inr.inj q)) nd)
theorem needs_is {K : PySem.W.Frag} {H : Hp} {ne : Int} (h0 : 0 ≤ ne) (h4 : ne ≤ 4) : NeedIs K H (.int ne) true := .inl ⟨ne, rfl, by rw [decide_eq_true h0, decide_eq_true h4]; rfl⟩
theorem keys_once {ks : List Str} {m : Int} (h : keysB (ks.map V.str) m = true) : ks.Nodup ∧ (ks.length : Int) ≤ m ∧ ∀ k ∈ ks, wordB k = true := by
  unfold keysB at h
  obtain ⟨h1, h2⟩ := Bool.and_eq_true_iff.mp h
  obtain ⟨h3, h4⟩ := Bool.and_eq_true_iff.mp h2
  have e : (ks.map V.str).map txV = ks := by rw [List.map_map]; exact (List.map_congr_left fun _ _ => rfl).trans (List.map_id ks)
  rw [e, List.length_map] at h4
  rw [List.length_map] at h1
  have nd := (onceW_all ks []).mp (by simpa [onceW] using of_decide_eq_true h4)
  refine ⟨nd.1, ?_, fun k hk => List.all_eq_true.mp h3 _ (List.mem_map_of_mem hk)⟩
  have z : ¬ m < (ks.length : Int) := by simpa using h1
  omega
theorem once_perm {ks : List Str} (h : ks.Nodup) : (onceW ks).Perm ks := by
  exact (List.perm_ext_iff_of_nodup (l₁ := onceW ks) (onceW_nodup ks [] List.nodup_nil) h).mpr fun z => onceW_mem
/-- contents that are made of what was given -/
structure Made (rows : List Row) (vks : List Str) (ne : Int) (sks : List Str) (c : Ct) : Prop where
  zs : c.us.map (·.z) = srtW (rows.map (·.z))
  us : ∀ r ∈ c.us, ∃ q ∈ rows, q.z = r.z ∧ q.u = r.u ∧ r.ks = srtW q.ks
  vo : c.vo = srtW vks
  ne : c.ne = ne
  si : c.si = srtW sks
theorem CAt.wider {S S' : Addr → Prop} {C : Addr} {H : Hp} {x : Addr} {c : Ct} (h : CAt S C H x c) (s : ∀ q, S q → S' q) : CAt S' C H x c := by
  obtain ⟨⟨dx, d, v, sg, e1, e2, e3, e4, k1, k2, k3, k4⟩, us⟩ := h
  exact ⟨⟨dx, d, v, sg, e1, e2, e3, e4, s _ k1, s _ k2, s _ k3, s _ k4⟩, fun r hr => ⟨(us r hr).tp, (us r hr).ls, s _ (us r hr).st, s _ (us r hr).sa⟩⟩
theorem ksOk_srt {ks : List Str} {m : Nat} (h : keysB (ks.map V.str) m = true) : KsOk (srtW ks) m := by
  obtain ⟨h1, h2, h3⟩ := keys_once h
  exact ⟨srtW_nodup.mpr h1, srtW_sorted _, by rw [srtW_len]; omega, fun k hk => h3 k (srtW_mem.mp hk)⟩
theorem val_use : ∀ (us : List Use) (z : Str), z ∉ us.map (·.z) → valV (dictU us) (Sum.inr z) = none
  | [], _, _ => rfl
  | r :: rest, z, h => by
    rw [List.map_cons, List.mem_cons, not_or] at h
    show valV ((Sum.inr r.z, V.ref r.t) :: dictU rest) (Sum.inr z) = none
    rw [valV_neg (fun q => h.1 (Sum.inr.inj q).symm)]
    exact val_use rest z h.2
theorem put_use {us : List Use} {r : Use} (h : r.z ∉ us.map (·.z)) : putK (dictU us) (Sum.inr r.z) (V.ref r.t) = dictU (us ++ [r]) := by
  rw [putK_new _ (val_use us _ h)]
  unfold dictU
  rw [List.map_append]; rfl
theorem UAt.put {S : Addr → Prop} {H H' : Hp} {r : Use} (h : UAt S H r) (s : ∀ q o, H q = some o → (∃ xs, o = .lst xs) ∨ (∃ xs, o = .tup xs) → H' q = some o) : UAt S H' r := ⟨s _ _ h.tp (.inr ⟨_, rfl⟩), s _ _ h.ls (.inl ⟨_, rfl⟩), h.st, h.sa⟩
theorem put_v (d v : V) : putF "_vouchers" v [(("_uses" : Str), d)] = [(("_uses" : Str), d), ("_vouchers", v)] := by
  have e : ¬ (("_uses" : Str) = "_vouchers") := by decide +kernel
  show (if ("_uses" : Str) = "_vouchers" then _ else _) = _
  rw [if_neg e]; rfl
theorem put_n (d v n : V) : putF "_needed" n [(("_uses" : Str), d), ("_vouchers", v)] = [(("_uses" : Str), d), ("_vouchers", v), ("_needed", n)] := by
  have e : ¬ (("_uses" : Str) = "_needed") := by decide +kernel
  have e2 : ¬ (("_vouchers" : Str) = "_needed") := by decide +kernel
  show (if ("_uses" : Str) = "_needed" then _ else _ :: (if ("_vouchers" : Str) = "_needed" then _ else _)) = _
  rw [if_neg e, if_neg e2]; rfl
theorem put_s (d v n s : V) : putF "_signers" s [(("_uses" : Str), d), ("_vouchers", v), ("_needed", n)] = [(("_uses" : Str), d), ("_vouchers", v), ("_needed", n), ("_signers", s)] := by
  have e : ¬ (("_uses" : Str) = "_signers") := by decide +kernel
  have e2 : ¬ (("_vouchers" : Str) = "_signers") := by decide +kernel
  have e3 : ¬ (("_needed" : Str) = "_signers") := by decide +kernel
  show (if ("_uses" : Str) = "_signers" then _ else _ :: (if ("_vouchers" : Str) = "_signers" then _ else _ :: (if ("_needed" : Str) = "_signers" then _ else _))) = _
  rw [if_neg e, if_neg e2, if_neg e3]; rfl
/-- what is given to Contents, all of it right -/
structure Right (K : PySem.W.Frag) (H : Hp) (r v n s : V) (rows : List Row) (lv : KL) (ne : Int) (so : Option KL) : Prop where
  r_ : ∃ d, r = .ref d ∧ H d = some (.dK (dictOf rows)) ∧ ∀ q ∈ rows, RowOk K d H q
  n1 : 1 ≤ rows.length
  n3 : rows.length ≤ 3
  nd : (rows.map (·.z)).Nodup
  rb : rows.all rowB = true
  v_ : v = .ref lv.a ∧ KLOk K H lv ∧ keysB (lv.ks.map V.str) 4 = true
  n_ : n = .int ne ∧ 0 ≤ ne ∧ ne ≤ 4
  s_ : (s = .non ∧ so = none) ∨ ∃ l, s = .ref l.a ∧ so = some l ∧ KLOk K H l ∧ keysB (l.ks.map V.str) 4 = true
def sgOf (lv : KL) (so : Option KL) : List Str := (so.getD lv).ks
/-- .. and some of it wrong -/
def Wrongly (P : Program) (w : World) (K : PySem.W.Frag) (H : Hp) (r v n s : V) (y : V) : Prop := ∃ f1 f2 f3 f4, RolesIs P w K H r f1 ∧ KeysIs K H v 4 f2 ∧ NeedIs K H n f3 ∧ ((s = .non ∧ f4 = true) ∨ (s ≠ .non ∧ KeysIs K H s 4 f4)) ∧ wrongV f1 f2 f3 f4 = y ∧ y ≠ .non
def spCInit (P : Program) (w : World) (K : PySem.W.Frag) (C CI : Addr) : Sp := fun vs H Q E => ∃ x dx r v n s H0, vs = [.ref x, r, v, n, s] ∧ H x = some (.ins C dx []) ∧ Same H0 H ∧ H0 x = none ∧
  ((∃ rows lv ne so, Right K H0 r v n s rows lv ne so ∧ ∀ H' c, CAt (fun q => H0 q = none) C H' x c → Made rows lv.ks ne (sgOf lv so) c → CtOk c → Same H0 H' → Q .non H') ∨
   (∃ y, Wrongly P w K H0 r v n s y ∧ ∀ d H', H0 d = none → Same H0 H' → H' d = some (.xd [(("part" : Str), y)]) → E (.ref CI) (some d) H'))
section
variable {P : Program} {w : World} {K : PySem.W.Frag} {mg : Str → Option Value} {base : Heap} {C CI : Addr}
theorem sc_InvalidContents_init : FnScope ["self", "part"] ["self", "part"] (defScope s_InvalidContents_init) := ⟨rfl, rfl, rfl, by decide +kernel, rfl, by decide +kernel, by decide +kernel⟩
theorem ok_cxinit (D : ExnQ K mg "InvalidContents" CI "InvalidContents.__init__" s_InvalidContents_init "part") : ExnB P w K mg base 1 "InvalidContents" CI (spX CI "part") := by
  obtain ⟨fI, fd, F, a, ty⟩ := D.ini
  refine ⟨D.mg_, D.ovr, fI, fd, _, F.ok sc_InvalidContents_init (fun vs H Q E h => ?_) (fun cdv A outer s H vs Q E hr h => ?_), a, ty, F.binds (fun _ _ _ _ _ _ us hl => match us, hl with | [_, _], _ => rfl)⟩
  · obtain ⟨a, y, rfl, _⟩ := h; rfl
  · obtain ⟨a, y, rfl, ha, k⟩ := h
    exact ⟨_, (pss_one (ps_keep (pv 0) (pv 1))), _, rfl, _, rfl, a, CI, rfl, D.ovr, D.no, ha, fun dx n e => k dx n e⟩
theorem sc_Contents_init : FnScope ["self", "roles", "vouchers", "needed", "signers", "part", "role", "accepted", "used"] ["self", "roles", "vouchers", "needed", "signers"] (defScope s_Contents_init) := ⟨rfl, rfl, rfl, by decide +kernel, rfl, by decide +kernel, by decide +kernel⟩
theorem body_cinit (T : Txt K mg) (J : CTx K mg C) (G_wrong_part : Cal P w K mg base CX0 5 "_wrong_part" (spWrong P w K)) (G_in_order : Cal P w K mg base CX0 1 "_in_order" (spOrder K)) (G_InvalidContents : ExnB P w K mg base 1 "InvalidContents" CI (spX CI "part"))
    (f : Addr) : BodyX P w K mg base ["self", "roles", "vouchers", "needed", "signers", "part", "role", "accepted", "used"] "Contents.__init__" s_Contents_init f 6 (spCInit P w K C CI) := by
  intro cdv A outer s H vs Q E hr h
  obtain ⟨x, dx, r, v, n, sg, H0, rfl, hx, s0, n0, h⟩ := h
  have hu1 : (A.deeper (envOfC "Contents.__init__" (defScope s_Contents_init) s.heap.objs.size f cdv)).units + 1 < cLine := Nat.lt_of_le_of_lt (Nat.add_le_add_left (by decide : 1 ≤ 64) _) hr.units
  refine ⟨_, (pss_cons (ps_set (i := 5) sc_Contents_init.nd rfl (Or.inl rfl) (pe_c G_wrong_part hr (by decide) rfl (pa_cons (pv 1) (pa_cons (pv 2) (pa_cons (pv 3) (pa_cons (pv 4) pa_nil))))))
      (pss_cons (ps_if (pt_cmpR op_notN (pv 5) pe_non (nomark _)) (pss_one (ps_raise rfl (takes_of rfl rfl rfl rfl) (pmk_b G_InvalidContents hr (by decide) rfl (pa_cons (pv 5) pa_nil)))) pss_nil)
      (pss_cons (ps_fld (pv 0) pe_dnewK rfl)
      (pss_cons (ps_for (passes_of rfl) rfl (pi_list (pe_c G_in_order hr (by decide) rfl (pa_cons (pe_callTy (call_list_dK rfl) (by rfl) T.b_list (by decide +kernel) (pa_cons (pv 1) pa_nil)) pa_nil))) (pg_name (i := 6) sc_Contents_init.nd rfl (Or.inl rfl)) (pss_cons (ps_asg (pe_dget hu1 (pv 1) (pv 6) (fun _ _ => rfl)) (pg_tup rfl (pgs_cons (pg_name (i := 7) sc_Contents_init.nd rfl (Or.inl rfl)) (pgs_cons (pg_name (i := 8) sc_Contents_init.nd rfl (Or.inl rfl)) pgs_nil))))
      (pss_one (ps_dput hu1 (pe_fld (pv 0) rfl) (pv 6) (pe_tup (pa_cons (pe_c G_in_order hr (by decide) rfl (pa_cons (pv 7) pa_nil)) (pa_cons (pv 8) pa_nil))) rfl))))
      (pss_cons (ps_fld (pv 0) (pe_c G_in_order hr (by decide) rfl (pa_cons (pv 2) pa_nil)) rfl)
      (pss_cons (ps_fld (pv 0) (pv 3) rfl)
      (pss_one (ps_fld (pv 0) (pe_c G_in_order hr (by decide) rfl (pa_cons (pe_ifExp (pt_cmpR op_isN (pv 4) pe_non (nomark _)) (pv 2) (pv 4)) pa_nil)) rfl)))))))), ?_⟩
  have npos : (0 : Nat) < 1000 := by decide
  have one : (1 : Nat) < 1000 := by decide
  have two : (2 : Nat) < 1000 := by decide
  have three : (3 : Nat) < 1000 := by decide
  rcases h with ⟨rows, lv, ne, so, R, q⟩ | ⟨y, ⟨f1, f2, f3, f4, i1, i2, i3, i4, ey, ny⟩, k⟩
  · obtain ⟨d0, rfl, ed0, ok⟩ := R.r_
    obtain ⟨rfl, lvk, lvb⟩ := R.v_
    obtain ⟨rfl, ne0, ne4⟩ := R.n_
    have i1 : RolesIs P w K H0 (.ref d0) true := R.rb ▸ roles_is (P := P) (w := w) ed0 R.n1 R.n3 R.nd ok
    have i2 : KeysIs K H0 (.ref lv.a) 4 true := lvb ▸ lvk.is 4
    have i4 : (sg = .non ∧ true = true) ∨ (sg ≠ .non ∧ KeysIs K H0 sg 4 true) := by
      rcases R.s_ with ⟨rfl, _⟩ | ⟨l, rfl, _, lk, lb⟩
      · exact .inl ⟨rfl, rfl⟩
      · exact .inr ⟨(fun z => nomatch z), lb ▸ lk.is 4⟩
    refine ⟨_, rfl, _, rfl, _, rfl, _, rfl, .ref d0, .ref lv.a, .int ne, sg, true, true, true, true, rfl, fun H' Q s q => i1 H' Q (s0.trans s) q, fun H' Q s q => i2 H' Q (s0.trans s) q, needs_is ne0 ne4, i4.imp id fun z => ⟨z.1, fun H' Q s q => z.2 H' Q (s0.trans s) q⟩, fun H1 s1 => ?_⟩
    refine ⟨_, rfl, rfl, _, rfl, iteF ?_⟩
    have s01 := s0.trans s1
    refine fun d nd => ⟨_, rfl, x, C, dx, [], rfl, by rw [upd_ne (ne_of_none (s1 _ _ hx) nd)]; exact s1 _ _ hx, J.cl, J.nu, npos, ?_⟩
    rw [show putF "_uses" (V.ref d) [] = [(("_uses" : Str), V.ref d)] from rfl]
    have nx1 : x ≠ d := ne_of_none (s1 _ _ hx) nd
    have nd0 : H0 d = none := s01.free nd
    have sA : Same H0 (upd (upd H1 d (.dK [])) x (.ins C dx [(("_uses" : Str), V.ref d)])) := same_mut (same_new' s01 nd) n0
    have xA : upd (upd H1 d (.dK [])) x (.ins C dx [(("_uses" : Str), V.ref d)]) x = some (.ins C dx [(("_uses" : Str), V.ref d)]) := upd_same
    have dA : upd (upd H1 d (.dK [])) x (.ins C dx [(("_uses" : Str), V.ref d)]) d = some (.dK []) := by rw [upd_ne nx1.symm, upd_same]
    generalize upd (upd H1 d (.dK [])) x (.ins C dx [(("_uses" : Str), V.ref d)]) = HA at *
    have mz : (dictOf rows).map (fun kv => kV kv.1) = (rows.map (·.z)).map V.str := by unfold dictOf; rw [List.map_map, List.map_map]; rfl
    refine ⟨_, rfl, d0, dictOf rows, rfl, sA _ _ ed0, fun q9 nq => ⟨q9, true, rows.map (·.z), rfl, ?_, by rw [List.length_map]; exact Nat.le_trans R.n3 (by decide), fun ys p H2 pm sy np s2 ep => ⟨p, rfl, ⟨_, SqL.of ep⟩, ?_⟩⟩⟩
    · rw [mz]; exact SqL.of upd_same
    have pl : (ys.length : Nat) ≤ 3 := by
      have z := pm.length_eq
      have z2 := onceW_len (rows.map (·.z))
      have z3 := R.n3
      rw [List.length_map] at z2
      omega
    have pm2 : ys.Perm (rows.map (·.z)) := pm.trans (once_perm R.nd)
    have ynd : ys.Nodup := pm2.nodup_iff.mpr R.nd
    have sB : Same H0 H2 := (same_new' sA nq).trans s2
    have xB : H2 x = some (.ins C dx [(("_uses" : Str), V.ref d)]) := s2 _ _ (by rw [upd_ne (ne_of_none xA nq)]; exact xA)
    have dB : H2 d = some (.dK []) := s2 _ _ (by rw [upd_ne (ne_of_none dA nq)]; exact dA)
    have np0 : H0 p = none := (same_new' sA nq).free np
    refine for_list (K := K) (a := p) (xs := ys.map V.str) (fun i sg' Hi => ∃ v6 v7 v8 : Option V, sg' = [some (.ref x), some (.ref d0), some (.ref lv.a), some (.int ne), some sg, some .non, v6, v7, v8] ∧ ∃ us : List Use, us.map (·.z) = ys.take i ∧ Hi x = some (.ins C dx [(("_uses" : Str), V.ref d)]) ∧ Hi d = some (.dK (dictU us)) ∧ Hi p = some (.lst (ys.map V.str)) ∧ Same H0 Hi ∧ ∀ r ∈ us, UAt (fun q => H0 q = none) Hi r ∧ ∃ q ∈ rows, q.z = r.z ∧ q.u = r.u ∧ r.ks = srtW q.ks)
      ⟨_, _, _, rfl, [], rfl, xB, dB, ep, sB, fun _ h => nomatch h⟩ (fun i sg' Hi _ ⟨_, _, _, _, us, _, _, _, e, _⟩ => SqL.of e) ?_ ?_
    · rintro i v sg' Hi hv ⟨v6, v7, v8, rfl, us, uz, xi, di, pi, si, ui⟩
      obtain ⟨z, ez, rfl⟩ : ∃ z, ys[i]? = some z ∧ v = .str z := by
        rw [List.getElem?_map] at hv
        cases c : ys[i]? with
        | none => rw [c] at hv; cases hv
        | some z => rw [c] at hv; exact ⟨z, rfl, (Option.some.inj hv).symm⟩
      have zin : z ∈ rows.map (·.z) := pm2.mem_iff.mp (List.mem_of_getElem? ez)
      obtain ⟨rq, rin, rfl⟩ := List.mem_map.mp zin
      have rok := ok rq rin
      have rB := List.all_eq_true.mp R.rb rq rin
      have kB : keysB (rq.ks.map V.str) 8 = true := by unfold rowB at rB; exact (Bool.and_eq_true_iff.mp (Bool.and_eq_true_iff.mp rB).2).1
      have k1 := keys_once kB
      have tk : ys.take (i + 1) = ys.take i ++ [rq.z] := by rw [List.take_succ, ez]; rfl
      have ztk : rq.z ∉ us.map (·.z) := by
        rw [uz]
        intro hm
        have nd2 : (ys.take (i + 1)).Nodup := ynd.sublist (List.take_sublist _ _)
        rw [tk, List.nodup_append] at nd2
        exact nd2.2.2 _ hm _ (List.mem_singleton.mpr rfl) rfl
      have ul : us.length ≤ 3 := by
        have z1 := congrArg List.length uz
        rw [List.length_map, List.length_take] at z1
        omega
      refine ⟨_, rfl, _, rfl, d0, .ref rq.t, rfl, by rw [← val_row rows rq R.nd rin]; exact DGet.k (k := Sum.inr rq.z) (si _ _ ed0), rq.t, _, rfl, SqT.of (si _ _ rok.at_), rfl, _, _, rfl, _, _, rfl, rfl, ?_⟩
      refine ⟨_, rfl, rq.a, rq.b, rq.ks, rfl, SqE.keep rok.sq si, by have := k1.2.1; omega, fun y2 p2 H3 pm3 so3 np2 s3 ep2 => ⟨_, rfl, by show 2 ≤ sizeLine; decide, fun t nt => ?_⟩⟩
      have s3' : Same Hi (upd H3 t (.tup [.ref p2, .str rq.u])) := same_new' s3 nt
      have xi2 := s3' _ _ xi
      have di2 := s3' _ _ di
      have pi2 := s3' _ _ pi
      have si2 := si.trans s3'
      have np3 : H0 p2 = none := si.free np2
      have nt3 : H0 t = none := si.free (s3.free nt)
      have ui2 : ∀ r ∈ us, UAt (fun q => H0 q = none) (upd H3 t (.tup [.ref p2, .str rq.u])) r := fun r hr => (ui r hr).1.put fun q o e _ => s3' _ _ e
      have et2 : upd H3 t (.tup [.ref p2, .str rq.u]) t = some (.tup [.ref p2, .str rq.u]) := upd_same
      have ep3 : upd H3 t (.tup [.ref p2, .str rq.u]) p2 = some (.lst (y2.map V.str)) := by rw [upd_ne (ne_of_none ep2 nt)]; exact ep2
      refine ⟨_, rfl, x, C, dx, _, _, rfl, xi2, J.cl, J.nu, rfl, _, rfl, d, _, rfl, DPut.k (k := Sum.inr rq.z) di2 (by unfold dictU; rw [List.length_map, sizeLine_eq]; omega), ?_⟩
      generalize upd H3 t (.tup [.ref p2, .str rq.u]) = H4 at *
      have eq : putK (dictU us) (Sum.inr rq.z) (V.ref t) = dictU (us ++ [⟨rq.z, t, p2, y2, rq.u⟩]) := put_use (r := ⟨rq.z, t, p2, y2, rq.u⟩) ztk
      rw [eq]
      have dx2 : x ≠ d := ne_of xi2 di2 (by intro z; cases z)
      have keepU : ∀ r, UAt (fun q => H0 q = none) H4 r → UAt (fun q => H0 q = none) (upd H4 d (.dK (dictU (us ++ [⟨rq.z, t, p2, y2, rq.u⟩])))) r := fun r h => h.put fun q o e k => by
        rw [upd_ne (ne_of e di2 (by rcases k with ⟨_, rfl⟩ | ⟨_, rfl⟩ <;> (intro z; cases z)))]; exact e
      refine ⟨_, _, _, rfl, us ++ [⟨rq.z, t, p2, y2, rq.u⟩], by rw [List.map_append, uz, tk]; rfl, by rw [upd_ne dx2]; exact xi2, upd_same, by rw [upd_ne (ne_of pi2 di2 (by intro z; cases z))]; exact pi2, same_mut si2 nd0, fun r hr => ?_⟩
      rcases List.mem_append.mp hr with hr | hr
      · exact ⟨keepU r (ui2 r hr), (ui r hr).2⟩
      · obtain rfl := List.mem_singleton.mp hr
        exact ⟨keepU _ ⟨et2, ep3, nt3, np3⟩, rq, rin, rfl, rfl, srt_eq so3 (pm3.trans (once_perm k1.1))⟩
    · rintro sg' Hi ⟨v6, v7, v8, rfl, us, uz, xi, di, pi, si, ui⟩
      rw [List.length_map, List.take_length] at uz
      have nl0 : ∀ {l : KL} {m : Int}, keysB (l.ks.map V.str) m = true → m ≤ 4 → l.ks.length ≤ 60 := fun h hm => by have := (keys_once h).2.1; omega
      -- what stands so far stays
      have go : ∀ H', Same H0 H' → (∀ q o, Hi q = some o → q ≠ x → H' q = some o) → H' d = some (.dK (dictU us)) ∧ ∀ r ∈ us, UAt (fun q => H0 q = none) H' r := fun H' _ k =>
        ⟨k _ _ di (ne_of di xi (by intro z; cases z)), fun r hr => (ui r hr).1.put fun q o e j => k _ _ e (ne_of e xi (by rcases j with ⟨_, rfl⟩ | ⟨_, rfl⟩ <;> (intro z; cases z)))⟩
      refine ⟨_, rfl, lv.a, lv.b, lv.ks, rfl, SqE.keep lvk.sq si, nl0 lvb (by decide), fun vs2 pv H5 pmv sov npv s5 epv => ⟨_, rfl, x, C, dx, _, rfl, s5 _ _ xi, J.cl, J.nv, one, ?_⟩⟩
      rw [put_v]
      have npv0 : H0 pv = none := si.free npv
      have s05 := si.trans s5
      have x6 : upd H5 x (.ins C dx [(("_uses" : Str), V.ref d), ("_vouchers", .ref pv)]) x = some (.ins C dx [(("_uses" : Str), V.ref d), ("_vouchers", .ref pv)]) := upd_same
      refine ⟨_, rfl, _, rfl, x, C, dx, _, rfl, x6, J.cl, J.nn, two, ?_⟩
      rw [put_n, upd_upd]
      have x7 : upd H5 x (.ins C dx [(("_uses" : Str), V.ref d), ("_vouchers", .ref pv), ("_needed", .int ne)]) x = some (.ins C dx [(("_uses" : Str), V.ref d), ("_vouchers", .ref pv), ("_needed", .int ne)]) := upd_same
      have s07 : Same H0 (upd H5 x (.ins C dx [(("_uses" : Str), V.ref d), ("_vouchers", .ref pv), ("_needed", .int ne)])) := same_mut s05 n0
      have k7 : ∀ q o, H5 q = some o → q ≠ x → upd H5 x (.ins C dx [(("_uses" : Str), V.ref d), ("_vouchers", .ref pv), ("_needed", .int ne)]) q = some o := fun q o e n => by rw [upd_ne n]; exact e
      generalize upd H5 x (.ins C dx [(("_uses" : Str), V.ref d), ("_vouchers", .ref pv), ("_needed", .int ne)]) = H7 at *
      have pvx : pv ≠ x := fun e => by rw [e, xi] at npv; cases npv
      -- the end, over the signers
      have fin : ∀ (sk : List Str) (ys : List Str) (ps : Addr) (H8 : Hp), keysB (sk.map V.str) 4 = true → sk = sgOf lv so → ys.Perm (onceW sk) → sortedS ys = true → H7 ps = none → Same H7 H8 → H8 ps = some (.lst (ys.map V.str)) →
          Q .non (upd H8 x (.ins C dx [(("_uses" : Str), V.ref d), ("_vouchers", .ref pv), ("_needed", .int ne), ("_signers", .ref ps)])) := by
        intro sk ys2 ps H8 kb es pms sos nps s8 eps
        have k8 : ∀ q o, Hi q = some o → q ≠ x → upd H8 x (.ins C dx [(("_uses" : Str), V.ref d), ("_vouchers", .ref pv), ("_needed", .int ne), ("_signers", .ref ps)]) q = some o := fun q o e n => by rw [upd_ne n]; exact s8 _ _ (k7 _ _ (s5 _ _ e) n)
        have psx : ps ≠ x := fun e => by rw [e, x7] at nps; cases nps
        have s08 := same_mut (o := .ins C dx [(("_uses" : Str), V.ref d), ("_vouchers", .ref pv), ("_needed", .int ne), ("_signers", .ref ps)]) (s07.trans s8) n0
        obtain ⟨g1, g2⟩ := go _ s08 k8
        have oV := keys_once lvb
        have oS := keys_once kb
        have evs : vs2 = srtW lv.ks := srt_eq sov (pmv.trans (once_perm oV.1))
        have ess : ys2 = srtW sk := srt_eq sos (pms.trans (once_perm oS.1))
        have ezs : us.map (·.z) = srtW (rows.map (·.z)) := uz.trans (srt_eq sy pm2)
        have ul : us.length = rows.length := by
          have z := congrArg List.length ezs
          rw [List.length_map, srtW_len, List.length_map] at z
          exact z
        refine q _ ⟨us, vs2, ne, ys2⟩ ⟨⟨dx, d, pv, ps, upd_same, g1, ?_, ?_, n0, nd0, npv0, s07.free nps⟩, g2⟩ ⟨ezs, fun r hr => (ui r hr).2, evs, rfl, ess.trans (by rw [es])⟩ ?_ s08
        · rw [upd_ne pvx]; exact s8 _ _ (k7 _ _ epv pvx)
        · rw [upd_ne psx]; exact eps
        · refine ⟨by show 1 ≤ us.length; rw [ul]; exact R.n1, by show us.length ≤ 3; rw [ul]; exact R.n3, ?_, ?_, ?_, evs ▸ ksOk_srt lvb, ess ▸ ksOk_srt kb, ne0, ne4⟩
          · show (us.map (·.z)).Nodup
            rw [ezs]; exact srtW_nodup.mpr R.nd
          · show sortedS (us.map (·.z)) = true
            rw [ezs]; exact srtW_sorted _
          · intro r hr
            obtain ⟨_, rq, rin, e1, e2, e3⟩ := ui r hr
            have rB := List.all_eq_true.mp R.rb rq rin
            unfold rowB at rB
            obtain ⟨b1, b2⟩ := Bool.and_eq_true_iff.mp rB
            obtain ⟨b3, b4⟩ := Bool.and_eq_true_iff.mp b2
            exact ⟨e3 ▸ ksOk_srt b3, e1 ▸ b1, e2 ▸ b4⟩
      rcases R.s_ with ⟨rfl, rfl⟩ | ⟨l, rfl, rfl, lk, lb⟩
      · refine ⟨_, rfl, rfl, _, rfl, iteT ⟨_, rfl, lv.a, lv.b, lv.ks, rfl, SqE.keep lvk.sq s07, nl0 lvb (by decide), fun ys2 ps H8 pms sos nps s8 eps => ⟨_, rfl, x, C, dx, _, rfl, s8 _ _ x7, J.cl, J.ns, three, ?_⟩⟩⟩
        rw [put_s]
        exact fin lv.ks ys2 ps H8 lvb rfl pms sos nps s8 eps
      · refine ⟨_, rfl, rfl, _, rfl, iteF ⟨_, rfl, l.a, l.b, l.ks, rfl, SqE.keep lk.sq s07, nl0 lb (by decide), fun ys2 ps H8 pms sos nps s8 eps => ⟨_, rfl, x, C, dx, _, rfl, s8 _ _ x7, J.cl, J.ns, three, ?_⟩⟩⟩
        rw [put_s]
        exact fin l.ks ys2 ps H8 lb rfl pms sos nps s8 eps
  · refine ⟨_, rfl, _, rfl, _, rfl, _, rfl, r, v, n, sg, f1, f2, f3, f4, rfl, fun H' Q s q => i1 H' Q (s0.trans s) q, fun H' Q s q => i2 H' Q (s0.trans s) q, i3.keep s0, i4.imp id fun z => ⟨z.1, fun H' Q s q => z.2 H' Q (s0.trans s) q⟩, fun H1 s1 => ?_⟩
    have s01 := s0.trans s1
    refine ⟨_, rfl, rfl, _, rfl, ?_⟩
    rw [ey, decide_eq_false ny]
    exact iteT ⟨_, rfl, x_read fun d nd => k d _ (s01.free nd) (same_new' s01 nd) upd_same⟩
end
end K26C
namespace K26C
open PySem PySem.Spec PyProof.Rows L2 Jg
local macro_rules | `(tactic| walk_at "rd1") => `(tactic| (first
  | refine ⟨_, rfl, ?_⟩
  | refine ⟨_, _, rfl, rfl, ?_⟩
  | refine ⟨_, _, rfl, ?_⟩
  | refine ⟨rfl, ?_⟩
  | (refine ⟨show (0 : Int) < _ by omega, ?_⟩)
  | (refine ⟨Or.inl ⟨by omega, by omega⟩, ?_⟩)
  | (refine ⟨Or.inr ⟨by omega, by omega⟩, ?_⟩)
  | (refine ⟨(⟨by decide, by decide, by decide⟩ : CPow _ _), ?_⟩)
  | refine Or.inl ⟨_, rfl, ?_⟩
  | refine Or.inr ⟨_, rfl, ?_⟩
  | fail "rd"))
local macro_rules | `(tactic| walk_at "rd") => `(tactic| repeat' walk_at "rd1")
theorem seq_upd {K : PySem.W.Frag} {H : Hp} {l p : Addr} {xs : List V} {o : HO} (h : SqL K H l xs) (n : l ≠ p) : SqL K (upd H p o) l xs := by
  rcases h with (h | ⟨z, h⟩) | h
  · exact .inl (.inl (by rw [upd_ne n]; exact h))
  · exact .inl (.inr ⟨z, by rw [upd_ne n]; exact h⟩)
  · exact .inr h
def spStream (K : PySem.W.Frag) : Sp := fun vs H Q _ => ∃ (a : Addr) (ns : List Int) (k : Nat), vs = [.ref a, .int k] ∧ SqL K H a (ns.map V.int) ∧ k ≤ 1000 ∧
  ∀ p x y, H p = none → 0 ≤ x → Q (.ref p) (upd H p (.lst [.int x, .int y]))
def spDraw : Sp := fun vs H Q _ => ∃ p a b n, vs = [.ref p, .int n] ∧ H p = some (.lst [.int a, .int b]) ∧ 0 ≤ a ∧ 0 < n ∧ n.natAbs < 2 ^ 300 ∧
  ∀ v a' b', 0 ≤ v → v < n → 0 ≤ a' → Q (.int v) (upd H p (.lst [.int a', .int b']))
/-- from a list, or a sign of a text -/
def spChoose (K : PySem.W.Frag) : Sp := fun vs H Q _ => ∃ p y a b, vs = [.ref p, y] ∧ H p = some (.lst [.int a, .int b]) ∧ 0 ≤ a ∧
  ((∃ l xs, y = .ref l ∧ SqL K H l xs ∧ l ≠ p ∧ 0 < xs.length ∧ xs.length < 1000 ∧ ∀ (i : Nat) (v : V) (a' b' : Int), xs[i]? = some v → 0 ≤ a' → Q v (upd H p (.lst [.int a', .int b']))) ∨
   (∃ z : Str, y = .str z ∧ 0 < z.length ∧ z.length < 1000 ∧ ∀ (c : Nat) (a' b' : Int), c ∈ z.cps.toList → 0 ≤ a' → Q (.str ⟨#[c]⟩) (upd H p (.lst [.int a', .int b']))))
theorem i1000 {n : Int} (h0 : 0 ≤ n) (h : n < 1000) : n.natAbs < 2 ^ 300 := by
  have : n.natAbs < 1024 := by omega
  exact Nat.lt_of_lt_of_le this (by decide +kernel)
theorem SameB.refl (p : Addr) (H : Hp) : SameB p H H := fun _ _ e _ => e
theorem SameB.new {p l : Addr} {H H1 : Hp} {o : HO} (a : SameB p H H1) (h : H1 l = none) : SameB p H (upd H1 l o) := fun q u e n => by
  have z := a q u e n
  rw [upd_ne (ne_of_none z h)]
  exact z
theorem SameB.mut {p : Addr} {H H1 : Hp} {o : HO} (a : SameB p H H1) : SameB p H (upd H1 p o) := fun q u e n => by
  rw [upd_ne n]
  exact a q u e n
theorem ne_dec {x y : Int} : decide (V.int x = V.int y) = decide (x = y) := by
  by_cases c : x = y
  · rw [c, decide_eq_true rfl, decide_eq_true rfl]
  · rw [decide_eq_false c, decide_eq_false fun z => c (V.int.inj z)]
theorem p30 : (10 : Int) ^ (30 : Int).toNat = 1000000000000000000000000000000 := by decide +kernel
theorem SameB.free {p l : Addr} {H H' : Hp} (s : SameB p H H') (n : H' l = none) (np : l ≠ p) : H l = none := by
  cases e : H l with
  | none => rfl
  | some o =>
    have z := s l o e np
    rw [n] at z; cases z
theorem az_app {a b : Str} (h1 : AZ a) (h2 : AZ b) : AZ (a ++ b) := fun c h => by
  rw [Str.cps_append, Array.toList_append, List.mem_append] at h
  exact h.elim (h1 c) (h2 c)
theorem az_one {c : Nat} (h : 97 ≤ c ∧ c ≤ 122) : AZ ⟨#[c]⟩ := fun d hd => by
  have e : d = c := by simpa using hd
  rw [e]; exact h
def letters : Str := "abcdefghijklmnopqrstuvwxyz"
theorem letters_az : AZ letters := by
  have h : ∀ c ∈ letters.cps.toList, 97 ≤ c ∧ c ≤ 122 := by decide +kernel
  exact h
theorem letters_len : letters.length = 26 := by decide +kernel
/-- single signs, joined -/
def Ones (ys : List Str) : Prop := ∀ y ∈ ys, AZ y ∧ y.length = 1
theorem join_az : ∀ ys : List Str, Ones ys → AZ (Str.join Str.empty ys) ∧ (Str.join Str.empty ys).length = ys.length
  | [], _ => ⟨(fun c h => by cases h), rfl⟩
  | [x], h => ⟨(h x (by simp)).1, (h x (by simp)).2⟩
  | x :: y :: r, h => by
    obtain ⟨h1, h2⟩ := join_az (y :: r) fun z hz => h z (List.mem_cons_of_mem _ hz)
    have e : Str.join Str.empty (x :: y :: r) = x ++ Str.join Str.empty (y :: r) := by
      show x ++ Str.empty ++ Str.join Str.empty (y :: r) = _
      rw [Str.append_empty]
    rw [e]
    refine ⟨az_app (h x (by simp)).1 h1, ?_⟩
    rw [Str.length_append, h2, (h x (by simp)).2, List.length_cons, List.length_cons, List.length_cons]
    omega
theorem ones_sum : ∀ ys : List Str, Ones ys → (ys.map (·.length)).sum = ys.length
  | [], _ => rfl
  | x :: r, h => by
    rw [List.map_cons, List.sum_cons, ones_sum r fun z hz => h z (List.mem_cons_of_mem _ hz), (h x (by simp)).2, List.length_cons]
    omega
/-- the letter at a step -/
def stepC (f st : Int) (i : Nat) : Nat := 97 + ((f + st * (0 + (i : Int))) % 26).toNat
theorem stepC_inj {f st : Int} (h : st = 1 ∨ st = 3 ∨ st = 5 ∨ st = 7 ∨ st = 9 ∨ st = 11 ∨ st = 15 ∨ st = 17 ∨ st = 19 ∨ st = 21 ∨ st = 23 ∨ st = 25) {i j : Nat} (hi : i < 26) (hj : j < 26) (e : stepC f st i = stepC f st j) : i = j := by
  unfold stepC at e
  rcases h with rfl | rfl | rfl | rfl | rfl | rfl | rfl | rfl | rfl | rfl | rfl | rfl <;> omega
theorem mid_inj {a b : Str} {c d : Nat} (e : a ++ ⟨#[c]⟩ ++ b = a ++ ⟨#[d]⟩ ++ b) : c = d := by
  have z := congrArg (fun s : Str => s.cps.toList) e
  simp only [Str.cps_append, Array.toList_append] at z
  have z2 := List.append_cancel_right z
  have z3 := List.append_cancel_left z2
  simpa using z3
theorem nodup_steps {f st : Int} {hd tl : Str} (h : st = 1 ∨ st = 3 ∨ st = 5 ∨ st = 7 ∨ st = 9 ∨ st = 11 ∨ st = 15 ∨ st = 17 ∨ st = 19 ∨ st = 21 ∨ st = 23 ∨ st = 25) {n : Nat} (hn : n ≤ 26) : ((List.range n).map fun i => hd ++ (⟨#[stepC f st i]⟩ : Str) ++ tl).Nodup := by
  unfold List.Nodup
  rw [List.pairwise_map]
  refine List.Pairwise.imp_of_mem (fun {a b} ha hb lt e => ?_) List.pairwise_lt_range
  have z := stepC_inj h (by have := List.mem_range.mp ha; omega) (by have := List.mem_range.mp hb; omega) (mid_inj e)
  omega
def spWords : Sp := fun vs H Q _ => ∃ p n, vs = [.ref p, .int n] ∧ 0 ≤ n ∧ n ≤ 26 ∧ StA H p ∧ ∀ (l : Addr) (ws : List Str) (H' : Hp), H l = none → l ≠ p → ws.length = n.toNat → (∀ z ∈ ws, Wd z) → ws.Nodup → H' l = some (.lst (ws.map V.str)) → StA H' p → SameB p H H' → Q (.ref l) H'
section
variable {P : Program} {w : World} {K : PySem.W.Frag} {mg : Str → Option Value} {base : Heap}
theorem sc_law_stream : FnScope ["script", "k", "cell", "size", "mixed"] ["script", "k"] (defScope s_law_stream) := ⟨rfl, rfl, rfl, by decide +kernel, rfl, by decide +kernel, by decide +kernel⟩
theorem ok_stream (D : DefK K mg "_law_stream" s_law_stream) (T : Txt K mg) : Cal P w K mg base CX0 1 "_law_stream" (spStream K) := by
  refine D.cal sc_law_stream (fun _ _ _ _ _ _ us hl => match us, hl with | [_, _], _ => rfl) (fun vs H Q E h => ?_) fun f cdv A outer s H vs Q E hr h => ?_
  · obtain ⟨a, ns, k, rfl, _⟩ := h; rfl
  · obtain ⟨a, ns, k, rfl, hS, hk, q⟩ := h
    refine ⟨_, (pss_cons (ps_set (i := 2) sc_law_stream.nd rfl (Or.inl rfl) pe_int)
      (pss_cons (ps_if (pt_cmpR op_lt (pv 1) (pe_callB call_len_seq (by rfl) T.b_len (by decide +kernel) (pa_cons (pv 0) pa_nil)) (nomark _)) (pss_one (ps_set (i := 2) sc_law_stream.nd rfl (Or.inl rfl) (pe_ix (r := rIxL K) ix_list (pv 0) (pv 1) (fun _ _ => rfl)))) pss_nil)
      (pss_cons (ps_set (i := 3) sc_law_stream.nd rfl (Or.inl rfl) (pe_callB (call_max2 rfl) (by rfl) T.b_max (by decide +kernel) (pa_cons (pv 2) (pa_cons (pe_op op_sub (pe_un un_neg pe_int) (pv 2)) pa_nil))))
      (pss_cons (ps_set (i := 4) sc_law_stream.nd rfl (Or.inl rfl) (pe_op op_mod (pe_op op_mul (pe_op op_add (pe_op op_add (pe_op op_add (pe_op op_mod (pv 3) pe_int) (pe_op op_mul (pe_op op_mul pe_int (pv 1)) (pv 1))) (pe_op op_mul pe_int (pv 1))) pe_int) pe_int) pe_int))
      (pss_one (ps_ret (pe_lst (pa_cons (pe_op op_mul (pv 3) (pe_callTy call_int1 (by rfl) T.b_int (by decide +kernel) (pa_cons (pe_cmpR op_ge (pv 3) (pe_op op_pow pe_int pe_int) (nomark _)) pa_nil))) (pa_cons (pv 4) pa_nil))))))))), ?_⟩
    have kb : -(2 ^ 64 : Int) < (k : Int) ∧ (k : Int) < 2 ^ 64 := by omega
    refine ⟨_, rfl, _, rfl, a, _, rfl, .inl hS, _, _, rfl, rfl, _, rfl, ?_⟩
    rw [List.length_map]
    by_cases c : (k : Int) < (ns.length : Int)
    · rw [decide_eq_true c]
      have at_ : (ns.map V.int)[k]? = some (V.int (ns[k]'(by omega))) := by rw [List.getElem?_map, List.getElem?_eq_getElem (by omega)]; rfl
      refine iteT ⟨_, rfl, _, rfl, a, _, _, _, rfl, rfl, hS, atI_nat at_, ?_⟩
      walk_at "rd"
      exact ⟨by show 2 ≤ sizeLine; decide, fun p hp => q p _ _ hp (Int.mul_nonneg (by split <;> omega) (by split <;> omega))⟩
    · rw [decide_eq_false c]
      refine iteF ?_
      walk_at "rd"
      exact ⟨by show 2 ≤ sizeLine; decide, fun p hp => q p _ _ hp (Int.mul_nonneg (by split <;> omega) (by split <;> omega))⟩
theorem sc_law_draw : FnScope ["stream", "count", "result"] ["stream", "count"] (defScope s_law_draw) := ⟨rfl, rfl, rfl, by decide +kernel, rfl, by decide +kernel, by decide +kernel⟩
theorem ok_draw (D : DefK K mg "_law_draw" s_law_draw) : Cal P w K mg base CX0 1 "_law_draw" spDraw := by
  refine D.cal sc_law_draw (fun _ _ _ _ _ _ us hl => match us, hl with | [_, _], _ => rfl) (fun vs H Q E h => ?_) fun f cdv A outer s H vs Q E hr h => ?_
  · obtain ⟨p, a, b, n, rfl, _⟩ := h; rfl
  · obtain ⟨p, a, b, n, rfl, hp, ha, hn, hb, q⟩ := h
    have at0 : ∀ x y : Int, atI [V.int x, V.int y] 0 = some (V.int x) := fun _ _ => atI_nat (j := 0) rfl
    have at1 : ∀ x y : Int, atI [V.int x, V.int y] 1 = some (V.int y) := fun _ _ => atI_nat (j := 1) rfl
    have hw : CDivW a n := wide_div hn hb (by decide) (by decide)
    refine ⟨_, (pss_cons (ps_if (pt_cmpR op_gt (pe_ix (r := rIxL K) ix_list (pv 0) pe_int (fun _ _ => rfl)) pe_int (nomark _)) (pss_cons (ps_set (i := 2) sc_law_draw.nd rfl (Or.inl rfl) (pe_op op_mod (pe_ix (r := rIxL K) ix_list (pv 0) pe_int (fun _ _ => rfl)) (pv 1)))
      (pss_cons (ps_asg (pe_op op_fdivW (pe_ix (r := rIxL K) ix_list (pv 0) pe_int (fun _ _ => rfl)) (pv 1)) (pg_sub (pv 0) pe_int set_list))
      (pss_one (ps_ret (pv 2))))) pss_nil)
      (pss_cons (ps_asg (pe_op op_mod (pe_op op_add (pe_op op_mul (pe_ix (r := rIxL K) ix_list (pv 0) pe_int (fun _ _ => rfl)) pe_int) pe_int) pe_int) (pg_sub (pv 0) pe_int set_list))
      (pss_one (ps_ret (pe_op op_mod (pe_op op_fdiv (pe_op op_mod (pe_op op_mul (pe_ix (r := rIxL K) ix_list (pv 0) pe_int (fun _ _ => rfl)) (pe_ix (r := rIxL K) ix_list (pv 0) pe_int (fun _ _ => rfl))) pe_int) pe_int) (pv 1)))))), ?_⟩
    refine ⟨_, rfl, p, _, _, _, rfl, rfl, SqL.of hp, at0 _ _, _, _, rfl, rfl, _, rfl, ?_⟩
    by_cases c : 0 < a
    · rw [decide_eq_true c]
      refine iteT ⟨_, rfl, p, _, _, _, rfl, rfl, SqL.of hp, at0 _ _, _, rfl, _, _, rfl, rfl, hn, ?_⟩
      refine ⟨_, rfl, p, _, _, _, rfl, rfl, SqL.of hp, at0 _ _, _, rfl, _, _, rfl, rfl, hw, ?_⟩
      refine ⟨_, rfl, p, _, _, 0, rfl, rfl, hp, rfl, ?_⟩
      refine ⟨_, rfl, q _ _ _ (Int.emod_nonneg _ (by omega)) (Int.emod_lt_of_pos _ hn) (Int.ediv_nonneg ha (by omega))⟩
    · rw [decide_eq_false c]
      refine iteF ⟨_, rfl, p, _, _, _, rfl, rfl, SqL.of hp, at1 _ _, ?_⟩
      walk_at "rd"
      refine ⟨p, _, _, 1, rfl, rfl, hp, rfl, ?_⟩
      refine ⟨_, rfl, p, _, _, _, rfl, rfl, SqL.of upd_same, at1 _ _, _, rfl, p, _, _, _, rfl, rfl, SqL.of upd_same, at1 _ _, _, _, rfl, rfl, ?_⟩
      have m1 := Int.emod_nonneg (b * 39373 + 7) (show (2147483647 : Int) ≠ 0 by decide)
      have m2 := Int.emod_lt_of_pos (b * 39373 + 7) (show (0 : Int) < 2147483647 by decide)
      refine ⟨.inl ⟨by omega, by omega⟩, _, _, rfl, rfl, show (0 : Int) < _ by decide, _, _, rfl, rfl, ⟨by decide, by decide⟩, _, rfl, _, _, rfl, rfl, hn, ?_⟩
      exact q _ _ _ (Int.emod_nonneg _ (by omega)) (Int.emod_lt_of_pos _ hn) ha
theorem sc_law_choose : FnScope ["stream", "items"] ["stream", "items"] (defScope s_law_choose) := ⟨rfl, rfl, rfl, by decide +kernel, rfl, by decide +kernel, by decide +kernel⟩
theorem ok_choose (D : DefK K mg "_law_choose" s_law_choose) (T : Txt K mg) (G_law_draw : Cal P w K mg base CX0 1 "_law_draw" spDraw) : Cal P w K mg base CX0 2 "_law_choose" (spChoose K) := by
  refine D.cal sc_law_choose (fun _ _ _ _ _ _ us hl => match us, hl with | [_, _], _ => rfl) (fun vs H Q E h => ?_) fun f cdv A outer s H vs Q E hr h => ?_
  · obtain ⟨p, l, a, b, rfl, _⟩ := h; rfl
  · obtain ⟨p, y, a, b, rfl, hp, ha, h⟩ := h
    refine ⟨_, (pss_one (ps_ret (pe_ix (r := rIx K) ix_seq (pv 1) (pe_c G_law_draw hr (by decide) rfl (pa_cons (pv 0) (pa_cons (pe_callB call_len (by rfl) T.b_len (by decide +kernel) (pa_cons (pv 1) pa_nil)) pa_nil))) (fun _ _ => rfl)))), ?_⟩
    rcases h with ⟨l, xs, rfl, hl, n, h0, h1, q⟩ | ⟨z, rfl, h0, h1, q⟩
    · refine ⟨_, rfl, _, rfl, _, rfl, .ref l, xs.length, rfl, .inl ⟨xs, hl, rfl⟩, p, a, b, _, rfl, hp, ha, by omega, i1000 (by omega) (by omega), fun v a' b' v0 v1 a0 => ?_⟩
      have hi : v.toNat < xs.length := by omega
      have ev : xs[v.toNat]? = some (xs[v.toNat]'hi) := List.getElem?_eq_getElem hi
      have ev2 : v = ((v.toNat : Nat) : Int) := by omega
      exact .inl ⟨l, xs, v, _, rfl, rfl, seq_upd hl n, at_of ev2 ev, q v.toNat _ a' b' ev a0⟩
    · have hz : z.length ≤ sizeLine := by rw [sizeLine_eq]; omega
      refine ⟨_, rfl, _, rfl, _, rfl, .str z, z.length, rfl, ⟨hz, rfl⟩, p, a, b, _, rfl, hp, ha, by omega, i1000 (by omega) (by omega), fun v a' b' v0 v1 a0 => ?_⟩
      obtain ⟨j, rfl⟩ : ∃ j : Nat, v = (j : Int) := ⟨v.toNat, by omega⟩
      have hi : j < z.cps.toList.length := by
        have e : z.length = z.cps.size := rfl
        rw [Array.length_toList]; omega
      have ev : z.cps.toList[j]? = some (z.cps.toList[j]'hi) := List.getElem?_eq_getElem hi
      exact .inr (.inr ⟨z, _, _, rfl, rfl, hz, atI_nat ev, q _ a' b' (List.getElem_mem hi) a0⟩)
theorem sc_law_words : FnScope ["stream", "count", "letters", "head", "tail", "first", "step", "at", "turn"] ["stream", "count"] (defScope s_law_words) := ⟨rfl, rfl, rfl, by decide +kernel, rfl, by decide +kernel, by decide +kernel⟩
theorem ok_words (D : DefK K mg "_law_words" s_law_words) (T : Txt K mg) (G_law_draw : Cal P w K mg base CX0 1 "_law_draw" spDraw) (G_law_choose : Cal P w K mg base CX0 2 "_law_choose" (spChoose K)) : Cal P w K mg base CX0 3 "_law_words" spWords := by
  refine D.cal sc_law_words (fun _ _ _ _ _ _ us hl => match us, hl with | [_, _], _ => rfl) (fun vs H Q E h => ?_) fun f cdv A outer s H vs Q E hr h => ?_
  · obtain ⟨p, n, rfl, _⟩ := h; rfl
  · obtain ⟨p, n, rfl, n0, n9, ⟨a, b, hp, ha⟩, k⟩ := h
    refine ⟨_, (pss_cons (ps_set (i := 2) sc_law_words.nd rfl (Or.inr rfl) pe_str)
      (pss_cons (ps_asg (pe_tup (pa_cons (pe_c G_law_draw hr (by decide) rfl (pa_cons (pv 0) (pa_cons pe_int pa_nil))) (pa_cons (pe_c G_law_choose hr (by decide) rfl (pa_cons (pv 0) (pa_cons (pe_lst (pa_cons pe_int (pa_cons pe_int (pa_cons pe_int (pa_cons pe_int (pa_cons pe_int (pa_cons pe_int (pa_cons pe_int (pa_cons pe_int (pa_cons pe_int (pa_cons pe_int (pa_cons pe_int (pa_cons pe_int pa_nil))))))))))))) pa_nil))) pa_nil))) (pg_tup rfl (pgs_cons (pg_name (i := 5) sc_law_words.nd rfl (Or.inr rfl)) (pgs_cons (pg_name (i := 6) sc_law_words.nd rfl (Or.inr rfl)) pgs_nil))))
      (pss_cons (ps_set (i := 3) sc_law_words.nd rfl (Or.inr rfl) (pe_join pe_str (pe_lc (own := [("turn", 8)]) (g := gName 8) (by rfl) sc_law_words.nd (pi_range1 (by rfl) T.b_range (pa_cons (pe_c G_law_draw hr (by decide) rfl (pa_cons (pv 0) (pa_cons pe_int pa_nil))) pa_nil)) (blkOk_by (own := [("turn", 8)]) (N := ["stream", "count", "letters", "head", "tail", "first", "step", "at", "turn"]) (sc := defScope s_law_words) (by decide +kernel)) (fun _ _ _ _ _ => pg_name (i := 8) sc_law_words.nd rfl (Or.inl rfl)) (fun _ _ _ _ _ => pts_nil) (fun _ _ _ _ _ => (pe_c G_law_choose hr (by decide) rfl (pa_cons (pv 0) (pa_cons (pv 2) pa_nil)))))))
      (pss_cons (ps_set (i := 4) sc_law_words.nd rfl (Or.inr rfl) (pe_join pe_str (pe_lc (own := [("turn", 8)]) (g := gName 8) (by rfl) sc_law_words.nd (pi_range1 (by rfl) T.b_range (pa_cons (pe_c G_law_draw hr (by decide) rfl (pa_cons (pv 0) (pa_cons pe_int pa_nil))) pa_nil)) (blkOk_by (own := [("turn", 8)]) (N := ["stream", "count", "letters", "head", "tail", "first", "step", "at", "turn"]) (sc := defScope s_law_words) (by decide +kernel)) (fun _ _ _ _ _ => pg_name (i := 8) sc_law_words.nd rfl (Or.inl rfl)) (fun _ _ _ _ _ => pts_nil) (fun _ _ _ _ _ => (pe_c G_law_choose hr (by decide) rfl (pa_cons (pv 0) (pa_cons (pv 2) pa_nil)))))))
      (pss_one (ps_ret (pe_lc (own := [("at", 7)]) (g := gName 7) (by rfl) sc_law_words.nd (pi_range1 (by rfl) T.b_range (pa_cons (pv 1) pa_nil)) (blkOk_by (own := [("at", 7)]) (N := ["stream", "count", "letters", "head", "tail", "first", "step", "at", "turn"]) (sc := defScope s_law_words) (by decide +kernel)) (fun _ _ _ _ _ => pg_name (i := 7) sc_law_words.nd rfl (Or.inl rfl)) (fun _ _ _ _ _ => pts_nil) (fun _ _ _ _ _ => (pe_op op_add_str (pe_op op_add_str (pv 3) (pe_ix (r := rIxS) ix_str (pv 2) (pe_op op_mod (pe_op op_add (pv 5) (pe_op op_mul (pv 6) (pv 7))) pe_int) (fun _ _ => rfl))) (pv 4)))))))))), ?_⟩
    refine ⟨_, rfl, p, a, b, 26, rfl, hp, ha, by decide, by decide +kernel, fun f1 a1 b1 f0 f26 ha1 => ?_⟩
    have s1 := SameB.mut (o := .lst [.int a1, .int b1]) (SameB.refl p H)
    refine ⟨_, rfl, by show 12 ≤ sizeLine; decide, fun l nl => ?_⟩
    have st1 : StA (upd H p (.lst [.int a1, .int b1])) p := ⟨a1, b1, upd_same, ha1⟩
    have lp := st1.ne nl
    refine ⟨p, .ref l, a1, b1, rfl, by rw [upd_ne lp.symm, upd_same], ha1, .inl ⟨l, _, rfl, SqL.of upd_same, lp, by show 0 < 12; decide, by show 12 < 1000; decide, fun j v a2 b2 hv ha2 => ?_⟩⟩
    have hs : ∃ n, v = V.int n ∧ (0 < n ∧ n < 26) ∧ (n = 1 ∨ n = 3 ∨ n = 5 ∨ n = 7 ∨ n = 9 ∨ n = 11 ∨ n = 15 ∨ n = 17 ∨ n = 19 ∨ n = 21 ∨ n = 23 ∨ n = 25) := by
      match j, hv with
      | 0, hv => cases hv; exact ⟨_, rfl, ⟨by decide, by decide⟩, by decide⟩
      | 1, hv => cases hv; exact ⟨_, rfl, ⟨by decide, by decide⟩, by decide⟩
      | 2, hv => cases hv; exact ⟨_, rfl, ⟨by decide, by decide⟩, by decide⟩
      | 3, hv => cases hv; exact ⟨_, rfl, ⟨by decide, by decide⟩, by decide⟩
      | 4, hv => cases hv; exact ⟨_, rfl, ⟨by decide, by decide⟩, by decide⟩
      | 5, hv => cases hv; exact ⟨_, rfl, ⟨by decide, by decide⟩, by decide⟩
      | 6, hv => cases hv; exact ⟨_, rfl, ⟨by decide, by decide⟩, by decide⟩
      | 7, hv => cases hv; exact ⟨_, rfl, ⟨by decide, by decide⟩, by decide⟩
      | 8, hv => cases hv; exact ⟨_, rfl, ⟨by decide, by decide⟩, by decide⟩
      | 9, hv => cases hv; exact ⟨_, rfl, ⟨by decide, by decide⟩, by decide⟩
      | 10, hv => cases hv; exact ⟨_, rfl, ⟨by decide, by decide⟩, by decide⟩
      | 11, hv => cases hv; exact ⟨_, rfl, ⟨by decide, by decide⟩, by decide⟩
      | j + 12, hv => cases hv
    obtain ⟨st, rfl, ⟨st0, st26⟩, odd⟩ := hs
    have s2 := (s1.new (o := .lst [.int 1, .int 3, .int 5, .int 7, .int 9, .int 11, .int 15, .int 17, .int 19, .int 21, .int 23, .int 25]) nl).mut (o := .lst [.int a2, .int b2])
    refine ⟨by show 2 ≤ sizeLine; decide, fun tp ntp => ?_⟩
    have s3 := s2.new (o := .tup [.int f1, .int st]) ntp
    have tpp : tp ≠ p := fun z => by rw [z, upd_same] at ntp; cases ntp
    refine ⟨tp, _, rfl, SqT.of upd_same, rfl, _, _, rfl, _, _, rfl, rfl, ?_⟩
    have hp3 : (upd (upd (upd (upd H p (.lst [.int a1, .int b1])) l (.lst [.int 1, .int 3, .int 5, .int 7, .int 9, .int 11, .int 15, .int 17, .int 19, .int 21, .int 23, .int 25])) p (.lst [.int a2, .int b2])) tp (.tup [.int f1, .int st])) p = some (.lst [.int a2, .int b2]) := by rw [upd_ne tpp.symm, upd_same]
    revert s3 hp3
    generalize upd (upd (upd (upd H p (.lst [.int a1, .int b1])) l (.lst [.int 1, .int 3, .int 5, .int 7, .int 9, .int 11, .int 15, .int 17, .int 19, .int 21, .int 23, .int 25])) p (.lst [.int a2, .int b2])) tp (.tup [.int f1, .int st]) = H3
    intro s3 hp3
    -- head
    refine ⟨⟨_, rfl⟩, _, rfl, p, a2, b2, 4, rfl, hp3, ha2, by decide, by decide +kernel, fun n1 a3 b3 n10 n14 ha3 => ?_⟩
    refine ⟨n1, rfl, by omega, by omega, fun D nD => ?_⟩
    have st3 : StA (upd H3 p (.lst [.int a3, .int b3])) p := ⟨a3, b3, upd_same, ha3⟩
    have Dp := st3.ne nD
    refine lc_range (lo := 0) (n := n1.toNat) (fun i H' => ∃ ys : List Str, H' D = some (.lst (ys.map V.str)) ∧ Ones ys ∧ ys.length = i ∧ StA H' p ∧ SameB p H H') ⟨[], upd_same, (fun z hz => by cases hz), rfl, ⟨a3, b3, by rw [upd_ne Dp.symm, upd_same], ha3⟩, (s3.mut).new nD⟩ (fun i H4 hi ⟨ys, hD, ho, hl, ⟨a4, b4, hp4, ha4⟩, s4⟩ => ?_) (fun H4 ⟨ys, hD, ho, hl, ⟨a4, b4, hp4, ha4⟩, s4⟩ => ?_)
    · refine ⟨rfl, ?_⟩
      refine yes_if ?_
      refine ⟨_, rfl, _, rfl, p, .str letters, a4, b4, rfl, hp4, ha4, .inr ⟨letters, rfl, by rw [letters_len]; decide, by rw [letters_len]; decide, fun c a5 b5 hc ha5 => ?_⟩⟩
      refine ⟨ys.map V.str, by rw [upd_ne Dp]; exact hD, ?_, ys ++ [⟨#[c]⟩], ?_, ?_, ?_, ⟨a5, b5, by rw [upd_ne Dp.symm, upd_same], ha5⟩, ?_⟩
      · rw [List.length_map, sizeLine_eq]; omega
      · rw [upd_same, List.map_append]; rfl
      · intro z hz
        rcases List.mem_append.mp hz with hz | hz
        · exact ho z hz
        · have e : z = ⟨#[c]⟩ := by simpa using hz
          rw [e]
          exact ⟨az_one (letters_az c hc), rfl⟩
      · rw [List.length_append, hl]; rfl
      · intro q o e n
        have nqD : q ≠ D := fun z => by
          have z1 := (s3.mut (o := .lst [.int a3, .int b3])) q o e n
          rw [z, nD] at z1; cases z1
        rw [upd_ne nqD, upd_ne n]
        exact s4 q o e n
    obtain ⟨hz1, hl1⟩ := join_az ys ho
    refine ⟨_, D, ys, rfl, rfl, .inl (SqL.of hD), by rw [ones_sum ys ho]; show ys.length + ys.length * 0 ≤ _; omega, ?_⟩
    have e0 : Str.ofString "" = Str.empty := by decide +kernel
    have ej : PySem.Txt.join (Str.ofString "") ys = Str.join Str.empty ys := by rw [e0]; exact StrLaws.glued_eq_join _ _
    have hz1' : AZ (PySem.Txt.join (Str.ofString "") ys) := ej ▸ hz1
    have hl1' : (PySem.Txt.join (Str.ofString "") ys).length ≤ 3 := by rw [ej, hl1]; omega
    clear hz1 hl1 ej
    revert hz1' hl1'
    show AZ (PySem.Txt.join (Str.ofString "") ys) → (PySem.Txt.join (Str.ofString "") ys).length ≤ 3 → _
    generalize PySem.Txt.join (Str.ofString "") ys = hd
    intro hz1 hl1
    -- tail
    have sD : SameB p H H4 := s4
    clear st3 nD
    refine ⟨⟨_, rfl⟩, _, rfl, p, a4, b4, 4, rfl, hp4, ha4, by decide, by decide +kernel, fun n2 a6 b6 n20 n24 ha6 => ?_⟩
    refine ⟨n2, rfl, by omega, by omega, fun D2 nD2 => ?_⟩
    have st6 : StA (upd H4 p (.lst [.int a6, .int b6])) p := ⟨a6, b6, upd_same, ha6⟩
    have Dp2 := st6.ne nD2
    refine lc_range (lo := 0) (n := n2.toNat) (fun i H' => ∃ ys : List Str, H' D2 = some (.lst (ys.map V.str)) ∧ Ones ys ∧ ys.length = i ∧ StA H' p ∧ SameB p H H') ⟨[], upd_same, (fun z hz => by cases hz), rfl, ⟨a6, b6, by rw [upd_ne Dp2.symm, upd_same], ha6⟩, (sD.mut).new nD2⟩ (fun i H5 hi ⟨ys, hD, ho, hl, ⟨a7, b7, hp7, ha7⟩, s5⟩ => ?_) (fun H5 ⟨ys, hD, ho, hl, ⟨a7, b7, hp7, ha7⟩, s5⟩ => ?_)
    · refine ⟨rfl, ?_⟩
      refine yes_if ?_
      refine ⟨_, rfl, _, rfl, p, .str letters, a7, b7, rfl, hp7, ha7, .inr ⟨letters, rfl, by rw [letters_len]; decide, by rw [letters_len]; decide, fun c a5 b5 hc ha5 => ?_⟩⟩
      refine ⟨ys.map V.str, by rw [upd_ne Dp2]; exact hD, ?_, ys ++ [⟨#[c]⟩], ?_, ?_, ?_, ⟨a5, b5, by rw [upd_ne Dp2.symm, upd_same], ha5⟩, ?_⟩
      · rw [List.length_map, sizeLine_eq]; omega
      · rw [upd_same, List.map_append]; rfl
      · intro z hz
        rcases List.mem_append.mp hz with hz | hz
        · exact ho z hz
        · have e : z = ⟨#[c]⟩ := by simpa using hz
          rw [e]
          exact ⟨az_one (letters_az c hc), rfl⟩
      · rw [List.length_append, hl]; rfl
      · intro q o e n
        have nqD : q ≠ D2 := fun z => by
          have z1 := (sD.mut (o := .lst [.int a6, .int b6])) q o e n
          rw [z, nD2] at z1; cases z1
        rw [upd_ne nqD, upd_ne n]
        exact s5 q o e n
    obtain ⟨hz2, hl2⟩ := join_az ys ho
    refine ⟨_, D2, ys, rfl, rfl, .inl (SqL.of hD), by rw [ones_sum ys ho]; show ys.length + ys.length * 0 ≤ _; omega, ?_⟩
    have e0 : Str.ofString "" = Str.empty := by decide +kernel
    have ej : PySem.Txt.join (Str.ofString "") ys = Str.join Str.empty ys := by rw [e0]; exact StrLaws.glued_eq_join _ _
    have hz2' : AZ (PySem.Txt.join (Str.ofString "") ys) := ej ▸ hz2
    have hl2' : (PySem.Txt.join (Str.ofString "") ys).length ≤ 3 := by rw [ej, hl2]; omega
    clear hz2 hl2 ej
    revert hz2' hl2'
    show AZ (PySem.Txt.join (Str.ofString "") ys) → (PySem.Txt.join (Str.ofString "") ys).length ≤ 3 → _
    generalize PySem.Txt.join (Str.ofString "") ys = tl
    intro hz2 hl2
    -- the words
    refine ⟨_, rfl, n, rfl, by omega, by omega, fun l3 nl3 => ?_⟩
    have stE : StA H5 p := ⟨a7, b7, hp7, ha7⟩
    have lp3 := stE.ne nl3
    have nlH : H l3 = none := by
      cases e : H l3 with
      | none => rfl
      | some o =>
        have z := s5 l3 o e lp3
        rw [nl3] at z; cases z
    refine lc_range (lo := 0) (n := n.toNat) (fun i H' => ∃ ws : List Str, H' = upd H5 l3 (.lst (ws.map V.str)) ∧ (∀ z ∈ ws, Wd z) ∧ ws.length = i ∧ ws = (List.range i).map fun i => hd ++ (⟨#[stepC f1 st i]⟩ : Str) ++ tl) ⟨[], rfl, (fun z hz => by cases hz), rfl, rfl⟩ (fun i H6 hi ⟨ws, e6, hw, hl, ew⟩ => ?_) (fun H6 ⟨ws, e6, hw, hl, ew⟩ => ?_)
    · subst e6
      refine ⟨rfl, ?_⟩
      refine yes_if ?_
      have m0 := Int.emod_nonneg (f1 + st * (0 + (i : Int))) (show (26 : Int) ≠ 0 by decide)
      have m1 := Int.emod_lt_of_pos (f1 + st * (0 + (i : Int))) (show (0 : Int) < 26 by decide)
      obtain ⟨j, ej⟩ : ∃ j : Nat, (f1 + st * (0 + (i : Int))) % 26 = (j : Int) := ⟨((f1 + st * (0 + (i : Int))) % 26).toNat, by omega⟩
      have hj : j < letters.cps.toList.length := by
        have e : letters.cps.toList.length = 26 := by decide +kernel
        omega
      have ev : letters.cps.toList[j]? = some (letters.cps.toList[j]'hj) := List.getElem?_eq_getElem hj
      have hc := letters_az _ (List.getElem_mem hj)
      refine ⟨_, rfl, _, rfl, _, rfl, _, rfl, _, rfl, st, _, rfl, rfl, .inl ⟨by omega, by omega⟩, f1, _, rfl, rfl, _, _, rfl, rfl, (by show (0 : Int) < 26; decide), ?_⟩
      refine ⟨letters, _, _, rfl, rfl, by rw [letters_len, sizeLine_eq]; decide, by rw [ej]; exact atI_nat ev, ?_⟩
      have l1 : (⟨#[letters.cps.toList[j]'hj]⟩ : Str).length = 1 := rfl
      refine ⟨hd, _, rfl, rfl, by rw [l1, sizeLine_eq]; omega, _, rfl, _, tl, rfl, rfl, by rw [Str.length_append, l1, sizeLine_eq]; omega, ?_⟩
      refine ⟨ws.map V.str, upd_same, by rw [List.length_map, sizeLine_eq]; omega, ws ++ [hd ++ ⟨#[letters.cps.toList[j]'hj]⟩ ++ tl], ?_, ?_, ?_, ?_⟩
      · rw [upd_upd, List.map_append]; rfl
      · intro z hz
        rcases List.mem_append.mp hz with hz | hz
        · exact hw z hz
        · have e : z = hd ++ ⟨#[letters.cps.toList[j]'hj]⟩ ++ tl := by simpa using hz
          rw [e]
          refine ⟨az_app (az_app hz1 (az_one hc)) hz2, ?_, ?_⟩
          · rw [Str.length_append, Str.length_append, l1]; omega
          · rw [Str.length_append, Str.length_append, l1]; omega
      · rw [List.length_append, hl]; rfl
      · have lj : letters.cps.toList[j]'hj = 97 + j := by
          have all : ∀ i, (hi : i < letters.cps.toList.length) → letters.cps.toList[i]'hi = 97 + i := by decide +kernel
          exact all j hj
        have sj : stepC f1 st i = 97 + j := by unfold stepC; rw [ej]; rfl
        rw [List.range_succ, List.map_append, ← ew, lj]
        show _ = ws ++ [hd ++ ⟨#[stepC f1 st i]⟩ ++ tl]
        rw [sj]
    · subst e6
      exact k l3 ws _ nlH lp3 hl hw (ew ▸ nodup_steps odd (by omega)) upd_same ⟨a7, b7, by rw [upd_ne lp3.symm]; exact hp7, ha7⟩ (s5.new nl3)
end
end K26C
namespace K26C
open PySem PySem.Spec PyProof.Rows L2 Jg
local macro_rules | `(tactic| walk_at "rd1") => `(tactic| (first
  | refine ⟨_, rfl, ?_⟩
  | refine ⟨_, _, rfl, rfl, ?_⟩
  | refine ⟨_, _, rfl, ?_⟩
  | refine ⟨rfl, ?_⟩
  | (refine ⟨show (0 : Int) < _ by omega, ?_⟩)
  | (refine ⟨Or.inl ⟨by omega, by omega⟩, ?_⟩)
  | (refine ⟨Or.inr ⟨by omega, by omega⟩, ?_⟩)
  | (refine ⟨(⟨by decide, by decide, by decide⟩ : CPow _ _), ?_⟩)
  | refine Or.inl ⟨_, rfl, ?_⟩
  | refine Or.inr ⟨_, rfl, ?_⟩
  | fail "rd"))
local macro_rules | `(tactic| walk_at "rd") => `(tactic| repeat' walk_at "rd1")
theorem get_u (d v : Addr) (n : Int) (s : Addr) : (cflds d v n s).lookup ("_uses" : Str) = some (.ref d) := by
  have e : ((("_uses" : Str)) == ("_uses" : Str)) = true := by decide +kernel
  simp only [cflds, List.lookup, e]
theorem get_s (d v : Addr) (n : Int) (s : Addr) : (cflds d v n s).lookup ("_signers" : Str) = some (.ref s) := by
  have e1 : ((("_signers" : Str)) == ("_uses" : Str)) = false := by decide +kernel
  have e2 : ((("_signers" : Str)) == ("_vouchers" : Str)) = false := by decide +kernel
  have e3 : ((("_signers" : Str)) == ("_needed" : Str)) = false := by decide +kernel
  have e : ((("_signers" : Str)) == ("_signers" : Str)) = true := by decide +kernel
  simp only [cflds, List.lookup, e1, e2, e3, e]
def spLst (C : Addr) (f : Ct → List Str) : Sp := fun vs H Q _ => ∃ x c S, vs = [.ref x] ∧ CAt S C H x c ∧ ∀ p, H p = none → Q (.ref p) (upd H p (.lst ((f c).map V.str)))
section
variable {P : Program} {w : World} {K : PySem.W.Frag} {mg : Str → Option Value} {base : Heap} {C CU : Addr}
theorem sc_UnknownName_init : FnScope ["self", "name"] ["self", "name"] (defScope s_UnknownName_init) := ⟨rfl, rfl, rfl, by decide +kernel, rfl, by decide +kernel, by decide +kernel⟩
theorem ok_uinit (D : ExnQ K mg "UnknownName" CU "UnknownName.__init__" s_UnknownName_init "name") : ExnB P w K mg base 1 "UnknownName" CU (spX CU "name") := by
  obtain ⟨fI, fd, F, a, ty⟩ := D.ini
  refine ⟨D.mg_, D.ovr, fI, fd, _, F.ok sc_UnknownName_init (fun vs H Q E h => ?_) (fun cdv A outer s H vs Q E hr h => ?_), a, ty, F.binds (fun _ _ _ _ _ _ us hl => match us, hl with | [_, _], _ => rfl)⟩
  · obtain ⟨a, y, rfl, _⟩ := h; rfl
  · obtain ⟨a, y, rfl, ha, k⟩ := h
    exact ⟨_, (pss_one (ps_keep (pv 0) (pv 1))), _, rfl, _, rfl, a, CU, rfl, D.ovr, D.no, ha, fun dx n e => k dx n e⟩
theorem sc_Contents_roles : FnScope ["self"] ["self"] (defScope s_Contents_roles) := ⟨rfl, rfl, rfl, by decide +kernel, rfl, by decide +kernel, by decide +kernel⟩
theorem ok_croles (D : PrpK K C "roles" "Contents.roles" s_Contents_roles) (T : Txt K mg) (J : CTx K mg C) : Prp P w K mg base CX0 1 C "roles" (spLst C fun c => c.us.map (·.z)) := by
  refine D.prp sc_Contents_roles (fun _ _ _ _ _ _ us hl => match us, hl with | [_], _ => rfl) (fun vs H Q E h => ?_) fun f cdv A outer s H vs Q E hr h => ?_
  · obtain ⟨x, c, S, rfl, _⟩ := h; rfl
  · obtain ⟨x, c, S, rfl, ⟨⟨dx, d, v, sg, e1, e2, e3, e4, _⟩, _⟩, k⟩ := h
    refine ⟨_, (pss_one (ps_ret (pe_callTy (call_list_dK rfl) (by rfl) T.b_list (by decide +kernel) (pa_cons (pe_fld (pv 0) rfl) pa_nil)))), ?_⟩
    have mz : (dictU c.us).map (fun kv => kV kv.1) = (c.us.map (·.z)).map V.str := by unfold dictU; rw [List.map_map, List.map_map]; rfl
    refine ⟨_, rfl, x, C, dx, _, _, rfl, e1, J.cl, J.nu, get_u _ _ _ _, d, dictU c.us, rfl, e2, fun q nq => ?_⟩
    rw [mz]
    exact k q nq
end
end K26C
namespace K26C
open PySem PySem.Spec PyProof.Rows L2 Jg
local macro_rules | `(tactic| walk_at "rd1") => `(tactic| (first
  | refine ⟨_, rfl, ?_⟩
  | refine ⟨_, _, rfl, rfl, ?_⟩
  | refine ⟨_, _, rfl, ?_⟩
  | refine ⟨rfl, ?_⟩
  | (refine ⟨show (0 : Int) < _ by omega, ?_⟩)
  | (refine ⟨Or.inl ⟨by omega, by omega⟩, ?_⟩)
  | (refine ⟨Or.inr ⟨by omega, by omega⟩, ?_⟩)
  | (refine ⟨(⟨by decide, by decide, by decide⟩ : CPow _ _), ?_⟩)
  | refine Or.inl ⟨_, rfl, ?_⟩
  | refine Or.inr ⟨_, rfl, ?_⟩
  | fail "rd"))
local macro_rules | `(tactic| walk_at "rd") => `(tactic| repeat' walk_at "rd1")
theorem StA.new {H : Hp} {p l : Addr} {o : HO} (h : StA H p) (n : H l = none) : StA (upd H l o) p := by
  obtain ⟨a, b, e, z⟩ := h
  exact ⟨a, b, by rw [upd_ne (ne_of_none e n)]; exact e, z⟩
@[irreducible] def spDr : Sp := spDraw
@[irreducible] def spCh (K : PySem.W.Frag) : Sp := spChoose K
theorem use_draw {H : Hp} {p : Addr} {n : Int} {Q : VK} {E : XK} (st : StA H p) (h1 : 0 < n) (h2 : n < 1000) (k : ∀ v H', 0 ≤ v → v < n → StA H' p → SameB p H H' → Q (.int v) H') : spDr [.ref p, .int n] H Q E := by
  unfold spDr
  have h2 := i1000 (by omega) h2
  obtain ⟨a, b, e, ha⟩ := st
  exact ⟨p, a, b, n, rfl, e, ha, h1, h2, fun v a' b' v0 v1 h => k v _ v0 v1 ⟨a', b', upd_same, h⟩ (SameB.refl _ _).mut⟩
theorem use_choose {K : PySem.W.Frag} {H : Hp} {p l : Addr} {xs : List V} {Q : VK} {E : XK} (st : StA H p) (hl : SqL K H l xs) (n : l ≠ p) (h1 : 0 < xs.length) (h2 : xs.length < 1000) (k : ∀ v H', v ∈ xs → StA H' p → SameB p H H' → Q v H') : spCh K [.ref p, .ref l] H Q E := by
  unfold spCh
  obtain ⟨a, b, e, ha⟩ := st
  exact ⟨p, .ref l, a, b, rfl, e, ha, .inl ⟨l, xs, rfl, hl, n, h1, h2, fun i v a' b' e h => k v _ (List.mem_of_getElem? e) ⟨a', b', upd_same, h⟩ (SameB.refl _ _).mut⟩⟩
theorem drI {P : Program} {w : World} {K : PySem.W.Frag} {mg : Str → Option Value} {base : Heap} {k : Nat} {x : Str} (h : Cal P w K mg base CX0 k x spDraw) : Cal P w K mg base CX0 k x spDr := by unfold spDr; exact h
theorem chI {P : Program} {w : World} {K : PySem.W.Frag} {mg : Str → Option Value} {base : Heap} {k : Nat} {x : Str} (h : Cal P w K mg base CX0 k x (spChoose K)) : Cal P w K mg base CX0 k x (spCh K) := by unfold spCh; exact h
theorem str_at {ws : List Str} {i : Nat} {x : V} (h : (ws.map V.str)[i]? = some x) : ∃ z, ws[i]? = some z ∧ x = .str z := by
  rw [List.getElem?_map] at h
  cases c : ws[i]? with
  | none => rw [c] at h; cases h
  | some z => rw [c] at h; exact ⟨z, rfl, (Option.some.inj h).symm⟩
theorem str_mem {ws : List Str} {x : V} (h : x ∈ ws.map V.str) : ∃ z ∈ ws, x = .str z := by
  obtain ⟨z, hz, e⟩ := List.mem_map.mp h
  exact ⟨z, hz, e.symm⟩
@[irreducible] def spSome (K : PySem.W.Frag) : Sp := fun vs H Q _ => ∃ (p l : Addr) (ws : List Str), vs = [.ref p, .ref l] ∧ StA H p ∧ H l = some (.lst (ws.map V.str)) ∧ ws.length ≤ 100 ∧
  ∀ (D : Addr) (us : List Str) (H' : Hp), H D = none → us.Sublist ws → H' D = some (.lst (us.map V.str)) → StA H' p → SameB p H H' → Q (.ref D) H'
theorem use_some {K : PySem.W.Frag} {H : Hp} {p l : Addr} {ws : List Str} {Q : VK} {E : XK} (st : StA H p) (el : H l = some (.lst (ws.map V.str))) (few : ws.length ≤ 100) (k : ∀ (D : Addr) (us : List Str) (H' : Hp), H D = none → us.Sublist ws → H' D = some (.lst (us.map V.str)) → StA H' p → SameB p H H' → Q (.ref D) H') : spSome K [.ref p, .ref l] H Q E := by
  unfold spSome
  exact ⟨p, l, ws, rfl, st, el, few, k⟩
def spTold (K : PySem.W.Frag) : Sp := fun vs H Q _ => ∃ (p l1 l2 l3 : Addr) (parts keys hands : List Str), vs = [.ref p, .ref l1, .ref l2, .ref l3] ∧ StA H p ∧ H l1 = some (.lst (parts.map V.str)) ∧ H l2 = some (.lst (keys.map V.str)) ∧ H l3 = some (.lst (hands.map V.str)) ∧
  parts.length ≤ 3 ∧ 0 < keys.length ∧ keys.length ≤ 50 ∧ keys.Nodup ∧ hands.length ≤ 50 ∧ ∀ q d H', TdOk parts keys hands d → H q = none → TdAt H' q d → StA H' p → SameB p H H' → Q (.ref q) H'
section
variable {P : Program} {w : World} {K : PySem.W.Frag} {mg : Str → Option Value} {base : Heap}
theorem sc_law_some : FnScope ["stream", "items", "item"] ["stream", "items"] (defScope s_law_some) := ⟨rfl, rfl, rfl, by decide +kernel, rfl, by decide +kernel, by decide +kernel⟩
theorem ok_some (D : DefK K mg "_law_some" s_law_some) (G_law_draw : Cal P w K mg base CX0 1 "_law_draw" spDr) : Cal P w K mg base CX0 2 "_law_some" (spSome K) := by
  refine D.cal sc_law_some (fun _ _ _ _ _ _ us hl => match us, hl with | [_, _], _ => rfl) (fun vs H Q E h => ?_) fun f cdv A outer s H vs Q E hr h => ?_
  · unfold spSome at h
    obtain ⟨p, l, ws, rfl, _⟩ := h; rfl
  · unfold spSome at h
    obtain ⟨p, l, ws, rfl, st, el, few, k⟩ := h
    refine ⟨_, (pss_one (ps_ret (pe_lc (own := [("item", 2)]) (g := gName 2) (by rfl) sc_law_some.nd (pi_list (pv 1)) (blkOk_by (own := [("item", 2)]) (N := ["stream", "items", "item"]) (sc := defScope s_law_some) (by decide +kernel)) (fun _ _ _ _ _ => pg_name (i := 2) sc_law_some.nd rfl (Or.inl rfl)) (fun _ _ _ _ _ => (pts_one (pt_cmpR op_eq (pe_c G_law_draw hr (by decide) rfl (pa_cons (pv 0) (pa_cons pe_int pa_nil))) pe_int (nomark _)))) (fun _ _ _ _ _ => (pv 2))))), ?_⟩
    refine ⟨_, rfl, l, rfl, ⟨_, SqL.of el⟩, fun D nD => lc_list (K := K) (a := l) (xs := ws.map V.str) (fun i H' => ∃ us : List Str, H' D = some (.lst (us.map V.str)) ∧ us.Sublist (ws.take i) ∧ StA H' p ∧ SameB p H H') ⟨[], upd_same, List.nil_sublist _, st.new nD, (SameB.refl p H).new nD⟩ (fun i H' _ ⟨us, _, _, _, s⟩ => SqL.of (s _ _ el (st.neS el))) ?_ ?_⟩
    · rintro i x H' hx ⟨us, eD, sub, st', s'⟩
      obtain ⟨z, ez, rfl⟩ : ∃ z, ws[i]? = some z ∧ x = .str z := str_at hx
      have Dp := st.ne nD
      have tk : ws.take (i + 1) = ws.take i ++ [z] := by rw [List.take_succ, ez]; rfl
      refine ⟨rfl, _, rfl, use_draw st' (by decide) (by decide) fun v H2 v0 v1 st2 s2 => ⟨rfl, _, rfl, ?_⟩⟩
      rw [ne_dec]
      have eD2 := s2 _ _ eD Dp
      have len : us.length ≤ 100 := by
        have l1 := sub.length_le
        rw [List.length_take] at l1
        omega
      by_cases c : v = 0
      · rw [decide_eq_true c]
        refine iteT ⟨_, rfl, _, eD2, by rw [List.length_map, sizeLine_eq]; omega, us ++ [z], by rw [upd_same, List.map_append]; rfl, by rw [tk]; exact sub.append_right _, ?_, ?_⟩
        · obtain ⟨a, b, e, h⟩ := st2
          exact ⟨a, b, by rw [upd_ne Dp.symm]; exact e, h⟩
        · exact fun q o e n => by rw [upd_ne (ne_of_none e nD)]; exact s2 _ _ (s' _ _ e n) n
      · rw [decide_eq_false c]
        exact iteF ⟨us, eD2, by rw [tk]; exact sub.trans (List.sublist_append_left _ _), st2, s'.trans s2⟩
    · rintro H' ⟨us, eD, sub, st', s'⟩
      rw [List.length_map, List.take_length] at sub
      exact k D us H' nD sub eD st' s'
theorem sc_law_told : FnScope ["stream", "parts", "keys", "hands", "rows", "part", "signing", "vouch", "least", "likes", "own"] ["stream", "parts", "keys", "hands"] (defScope s_law_told) := ⟨rfl, rfl, rfl, by decide +kernel, rfl, by decide +kernel, by decide +kernel⟩
theorem ok_told (D : DefK K mg "_law_told" s_law_told) (G_law_draw : Cal P w K mg base CX0 1 "_law_draw" spDr) (G_law_choose : Cal P w K mg base CX0 2 "_law_choose" (spCh K)) (G_law_some : Cal P w K mg base CX0 2 "_law_some" (spSome K)) : Cal P w K mg base CX0 3 "_law_told" (spTold K) := by
  refine D.cal sc_law_told (fun _ _ _ _ _ _ us hl => match us, hl with | [_, _, _, _], _ => rfl) (fun vs H Q E h => ?_) fun f cdv A outer s H vs Q E hr h => ?_
  · obtain ⟨p, l1, l2, l3, parts, keys, hands, rfl, _⟩ := h; rfl
  · obtain ⟨p, l1, l2, l3, parts, keys, hands, rfl, st, e1, e2, e3, np3, nk, k50, knd, h50, k⟩ := h
    refine ⟨_, (pss_cons (ps_set (i := 4) sc_law_told.nd rfl (Or.inl rfl) (pe_lst pa_nil))
      (pss_cons (ps_for PassesOwn.never rfl (pi_list (pv 1)) (pg_name (i := 5) sc_law_told.nd rfl (Or.inl rfl)) (pss_cons (ps_par (i := 9) (j := 10) (by rfl) sc_law_told.nd rfl rfl (by decide) rfl rfl (pa_cons (pe_c G_law_some hr (by decide) rfl (pa_cons (pv 0) (pa_cons (pv 2) pa_nil))) (pa_cons (pe_c G_law_choose hr (by decide) rfl (pa_cons (pv 0) (pa_cons (pv 2) pa_nil))) pa_nil)) (by rfl))
      (pss_cons (ps_if (PW.pt (pw_and (pt_cmpR (r := rIn K true) op_notIn_seq (pv 10) (pv 9) rfl) (pw_and1 (pt_cmpR op_gt (pe_c G_law_draw hr (by decide) rfl (pa_cons (pv 0) (pa_cons pe_int pa_nil))) pe_int (nomark _))))) (pss_one (ps_set (i := 9) sc_law_told.nd rfl (Or.inl rfl) (pe_op op_cat (pv 9) (pe_lst (pa_cons (pv 10) pa_nil))))) pss_nil)
      (pss_one (ps_expr (pe_bm F.plainAttrs_list F.slot_list_append F.type_list_append mt_append (pv 4) (pa_cons (pe_tup (pa_cons (pv 5) (pa_cons (pv 9) (pa_cons (pv 10) pa_nil)))) pa_nil)))))))
      (pss_cons (ps_par (i := 7) (j := 8) (by rfl) sc_law_told.nd rfl rfl (by decide) rfl rfl (pa_cons (pe_c G_law_some hr (by decide) rfl (pa_cons (pv 0) (pa_cons (pv 3) pa_nil))) (pa_cons (pe_c G_law_draw hr (by decide) rfl (pa_cons (pv 0) (pa_cons pe_int pa_nil))) pa_nil)) (by rfl))
      (pss_cons (ps_set (i := 6) sc_law_told.nd rfl (Or.inl rfl) (pe_ifExp (pt_cmpR op_gt (pe_c G_law_draw hr (by decide) rfl (pa_cons (pv 0) (pa_cons pe_int pa_nil))) pe_int (nomark _)) pe_non (pe_c G_law_some hr (by decide) rfl (pa_cons (pv 0) (pa_cons (pv 3) pa_nil)))))
      (pss_one (ps_ret (pe_tup (pa_cons (pv 4) (pa_cons (pv 7) (pa_cons (pv 8) (pa_cons (pv 6) pa_nil))))))))))), ?_⟩
    refine ⟨Nat.zero_le _, fun lr nlr => ?_⟩
    have stA := st.new (o := .lst []) nlr
    have sA := (SameB.refl p H).new (o := .lst []) nlr
    have lrp := st.ne nlr
    refine ⟨_, rfl, l1, rfl, ⟨_, SqL.of (sA _ _ e1 (st.neS e1))⟩, for_list (K := K) (a := l1) (xs := parts.map V.str) (fun i sg H' => ∃ v5 v6 v7 v8 v9 v10 : Option V, sg = [some (.ref p), some (.ref l1), some (.ref l2), some (.ref l3), some (.ref lr), v5, v6, v7, v8, v9, v10] ∧ ∃ rows : List Use, H' lr = some (.lst ((rows.map (·.t)).map V.ref)) ∧ rows.map (·.z) = parts.take i ∧ (∀ r ∈ rows, TRow H' r ∧ r.u ∈ keys ∧ r.ks.Nodup ∧ ∀ k ∈ r.ks, k ∈ keys) ∧ StA H' p ∧ SameB p H H')
      ⟨_, _, _, _, _, _, rfl, [], upd_same, rfl, (fun _ h => nomatch h), stA, sA⟩ (fun i sg H' _ ⟨_, _, _, _, _, _, _, _, _, _, _, _, s⟩ => SqL.of (s _ _ e1 (st.neS e1))) ?_ ?_⟩
    · rintro i x sg H' hx ⟨v5, v6, v7, v8, v9, v10, rfl, rows, elr, zs, rok, st', s'⟩
      obtain ⟨z, ez, rfl⟩ := str_at hx
      have k2 := s' _ _ e2 (st.neS e2)
      refine ⟨_, rfl, _, rfl, use_some st' k2 (by omega) fun la us Ha nla sub ela sta sa => ?_⟩
      have k3 := sa _ _ k2 (st'.neS k2)
      refine ⟨_, rfl, _, rfl, use_choose sta (SqL.of k3) (sta.neS k3) (by rw [List.length_map]; exact nk) (by rw [List.length_map]; omega) fun v Hb hv stb sb => ⟨_, _, rfl, ?_⟩⟩
      obtain ⟨u, hu, rfl⟩ := str_mem hv
      have sab := sa.trans sb
      have elb := sb _ _ ela (sta.neS ela)
      have lr2 := sab _ _ elr (st'.no elr refs_no)
      have nd := knd.sublist sub
      have len : us.length ≤ 50 := Nat.le_trans sub.length_le k50
      have tk : parts.take (i + 1) = parts.take i ++ [z] := by rw [List.take_succ, ez]; rfl
      have rl : rows.length ≤ 3 := by
        have l := congrArg List.length zs
        rw [List.length_map, List.length_take] at l
        omega
      -- the row is put behind the others
      have fin : ∀ (l9 : Addr) (us' : List Str) (Hc : Hp), Hc l9 = some (.lst (us'.map V.str)) → l9 ≠ lr → us'.Nodup → (∀ k ∈ us', k ∈ keys) → StA Hc p → SameB p H' Hc →
          ∀ t, Hc t = none → ∃ rows2 : List Use, upd (upd Hc t (.tup [.str z, .ref l9, .str u])) lr (.lst ((rows.map (·.t)).map V.ref ++ [.ref t])) lr = some (.lst ((rows2.map (·.t)).map V.ref)) ∧ rows2.map (·.z) = parts.take (i + 1) ∧
            (∀ r ∈ rows2, TRow (upd (upd Hc t (.tup [.str z, .ref l9, .str u])) lr (.lst ((rows.map (·.t)).map V.ref ++ [.ref t]))) r ∧ r.u ∈ keys ∧ r.ks.Nodup ∧ ∀ k ∈ r.ks, k ∈ keys) ∧ StA (upd (upd Hc t (.tup [.str z, .ref l9, .str u])) lr (.lst ((rows.map (·.t)).map V.ref ++ [.ref t]))) p ∧
            SameB p H (upd (upd Hc t (.tup [.str z, .ref l9, .str u])) lr (.lst ((rows.map (·.t)).map V.ref ++ [.ref t]))) := by
        intro l9 us' Hc e9 n9 nd' in' stc sc t nt
        have lrc := sc _ _ elr (st'.no elr refs_no)
        have tp := stc.ne nt
        have tlr : t ≠ lr := fun e => by rw [e, lrc] at nt; cases nt
        have stay : ∀ q o, Hc q = some o → q ≠ lr → upd (upd Hc t (.tup [.str z, .ref l9, .str u])) lr (.lst ((rows.map (·.t)).map V.ref ++ [.ref t])) q = some o := fun q o e n => by
          rw [upd_ne n, upd_ne (ne_of_none e nt)]; exact e
        have nlr' : ∀ {q : Addr} {ws : List Str}, Hc q = some (.lst (ws.map V.str)) → (q = lr → rows = []) := fun {q ws} e h => by
          rw [h, lrc] at e
          injection e with e; injection e with e
          cases rows with
          | nil => rfl
          | cons a b =>
            cases ws with
            | nil => cases e
            | cons c d => injection e with e1 e2; cases e1
        refine ⟨rows ++ [⟨z, t, l9, us', u⟩], by rw [upd_same, List.map_append, List.map_append]; rfl, by rw [List.map_append, zs, tk]; rfl, fun r hr => ?_, ?_, fun q o e n => ?_⟩
        · rcases List.mem_append.mp hr with hr | hr
          · obtain ⟨R, r2⟩ := rok r hr
            have R2 := R.keep st' sc
            refine ⟨⟨stay _ _ R2.tp fun e => ?_, stay _ _ R2.ls fun e => ?_⟩, r2⟩
            · have := R2.tp; rw [e, lrc] at this; cases this
            · have := nlr' R2.ls e
              rw [this] at hr; cases hr
          · obtain rfl := List.mem_singleton.mp hr
            exact ⟨⟨by rw [upd_ne tlr, upd_same], stay _ _ e9 n9⟩, hu, nd', in'⟩
        · obtain ⟨a, b, e, h⟩ := stc
          exact ⟨a, b, stay _ _ e lrp.symm, h⟩
        · refine stay _ _ (sc _ _ (s' _ _ e n) n) fun eq => ?_
          rw [eq, nlr] at e; cases e
      refine ⟨_, rfl, _, rfl, ask_notInS (SqL.of elb) ⟨_, rfl, ?_⟩⟩
      by_cases c : u ∈ us
      · rw [decide_eq_true c]
        refine iteF (iteF ?_)
        exact ⟨_, rfl, .inl ⟨rfl, _, .inl (.inl lr2)⟩, _, rfl, _, rfl, _, rfl, by show 3 ≤ sizeLine; decide, fun t nt => ⟨lr, _, _, rfl, rfl, by rw [upd_ne (ne_of_none lr2 nt)]; exact lr2, by rw [List.length_map, List.length_map, sizeLine_eq]; omega, _, _, _, _, _, _, rfl, fin la us Hb elb (ne_of_none elr nla).symm nd (fun k hk => sub.subset hk) stb sab t nt⟩⟩
      · rw [decide_eq_false c]
        refine iteT ⟨_, rfl, use_draw stb (by decide) (by decide) fun v Hc v0 v1 stc sc => ⟨_, _, rfl, rfl, _, rfl, ?_⟩⟩
        have elc := sc _ _ elb (stb.neS elb)
        have lr3 := sc _ _ lr2 (stb.no lr2 refs_no)
        have sac := sab.trans sc
        by_cases c2 : 0 < v
        · rw [decide_eq_true c2]
          refine iteT ⟨_, rfl, _, rfl, by show 1 ≤ sizeLine; decide, fun l6 n6 => ⟨la, l6, _, _, rfl, rfl, by rw [upd_ne (ne_of_none elc n6)]; exact elc, upd_same, by rw [List.length_map, sizeLine_eq]; show us.length + 1 ≤ _; omega, fun l7 n7 => ?_⟩⟩
          have s7 := same_new' (same_new (o := .lst [V.str u]) n6) (o := .lst (us.map V.str ++ [V.str u])) n7
          have e7 : upd (upd Hc l6 (.lst [V.str u])) l7 (.lst (us.map V.str ++ [V.str u])) l7 = some (.lst ((us ++ [u]).map V.str)) := by rw [upd_same, List.map_append]; rfl
          have n7c : l7 ≠ lr := fun e => by
            rw [e, upd_ne (ne_of_none lr3 n6), lr3] at n7; cases n7
          generalize upd (upd Hc l6 (.lst [V.str u])) l7 (.lst (us.map V.str ++ [V.str u])) = Hd at *
          have lr4 := s7 _ _ lr3
          have nd2 : (us ++ [u]).Nodup := by
            rw [List.nodup_append]
            exact ⟨nd, by simp, fun a ha b hb => by rw [List.mem_singleton.mp hb]; exact fun e => c (e ▸ ha)⟩
          exact ⟨_, rfl, .inl ⟨rfl, _, .inl (.inl lr4)⟩, _, rfl, _, rfl, _, rfl, by show 3 ≤ sizeLine; decide, fun t nt => ⟨lr, _, _, rfl, rfl, by rw [upd_ne (ne_of_none lr4 nt)]; exact lr4, by rw [List.length_map, List.length_map, sizeLine_eq]; omega, _, _, _, _, _, _, rfl, fin l7 (us ++ [u]) Hd e7 n7c nd2 (fun k hk => (List.mem_append.mp hk).elim (fun h => sub.subset h) fun h => by rw [List.mem_singleton.mp h]; exact hu) (stc.keep s7) (sac.trans (.of s7)) t nt⟩⟩
        · rw [decide_eq_false c2]
          refine iteF ?_
          exact ⟨_, rfl, .inl ⟨rfl, _, .inl (.inl lr3)⟩, _, rfl, _, rfl, _, rfl, by show 3 ≤ sizeLine; decide, fun t nt => ⟨lr, _, _, rfl, rfl, by rw [upd_ne (ne_of_none lr3 nt)]; exact lr3, by rw [List.length_map, List.length_map, sizeLine_eq]; omega, _, _, _, _, _, _, rfl, fin la us Hc elc (ne_of_none elr nla).symm nd (fun k hk => sub.subset hk) stc sac t nt⟩⟩
    · rintro sg H' ⟨v5, v6, v7, v8, v9, v10, rfl, rows, elr, zs, rok, st', s'⟩
      rw [List.length_map, List.take_length] at zs
      have h3 := s' _ _ e3 (st.neS e3)
      refine ⟨_, rfl, _, rfl, use_some st' h3 (by omega) fun lv vo Ha nlv subv elv sta sa => ?_⟩
      refine ⟨_, rfl, use_draw sta (by decide) (by decide) fun le Hb l0 l3' stb sb => ⟨_, _, rfl, ?_⟩⟩
      refine ⟨_, rfl, use_draw stb (by decide) (by decide) fun y Hc y0 y1 stc sc => ⟨_, _, rfl, rfl, _, rfl, ?_⟩⟩
      have sac := sa.trans (sb.trans sc)
      have sHc := s'.trans sac
      have lr3 := sac _ _ elr (st'.no elr refs_no)
      have lv3 := (sb.trans sc) _ _ elv (sta.neS elv)
      have rok3 : ∀ r ∈ rows, TRow Hc r ∧ r.u ∈ keys ∧ r.ks.Nodup ∧ ∀ k ∈ r.ks, k ∈ keys := fun r hr => ⟨(rok r hr).1.keep st' sac, (rok r hr).2⟩
      -- the end
      have fin : ∀ (Hd : Hp) (sv : V) (sg : Option (List Str)), SgAt Hd sv sg → (∀ ks, sg = some ks → ks.Sublist hands) → StA Hd p → SameB p Hc Hd → ∀ t, Hd t = none → Q (.ref t) (upd Hd t (.tup [.ref lr, .ref lv, .int le, sv])) := by
        intro Hd sv sgo sat sub std sd t nt
        have sHd := sHc.trans sd
        have tp := std.ne nt
        have sn := same_new (o := .tup [.ref lr, .ref lv, .int le, sv]) nt
        refine k t ⟨rows, vo, le, sgo⟩ _ ⟨zs, fun r hr => (rok3 r hr).2, subv, ⟨l0, l3'⟩, sub⟩ (sHd.free nt tp) ⟨⟨lr, lv, sv, upd_same, sn _ _ (sd _ _ lr3 (stc.no lr3 refs_no)), sn _ _ (sd _ _ lv3 (stc.neS lv3)), ?_⟩, fun r hr => ?_⟩ (std.new nt) (sHd.new nt)
        · cases sgo with
          | none => exact sat
          | some ks =>
            obtain ⟨l, e, h⟩ := sat
            exact ⟨l, e, sn _ _ h⟩
        · have R := (rok3 r hr).1.keep stc sd
          exact ⟨sn _ _ R.tp, sn _ _ R.ls⟩
      by_cases c : 0 < y
      · rw [decide_eq_true c]
        refine iteT ⟨_, rfl, _, rfl, _, rfl, _, rfl, by show 4 ≤ sizeLine; decide, fun t nt => fin Hc .non none rfl (fun _ h => nomatch h) stc (SameB.refl _ _) t nt⟩
      · rw [decide_eq_false c]
        have h4 := sac _ _ h3 (st'.neS h3)
        refine iteF ⟨_, rfl, _, rfl, use_some stc h4 (by omega) fun ls sk Hd nls subs els std sd => ⟨_, rfl, _, rfl, _, rfl, _, rfl, by show 4 ≤ sizeLine; decide, fun t nt => fin Hd (.ref ls) (some sk) ⟨ls, rfl, els⟩ (fun ks h => by cases h; exact subs) std sd t nt⟩⟩
end
end K26C
namespace K26C
open PySem PySem.Spec PyProof.Rows L2 Jg
local macro_rules | `(tactic| walk_at "rd1") => `(tactic| (first
  | refine ⟨_, rfl, ?_⟩
  | refine ⟨_, _, rfl, rfl, ?_⟩
  | refine ⟨_, _, rfl, ?_⟩
  | refine ⟨rfl, ?_⟩
  | (refine ⟨show (0 : Int) < _ by omega, ?_⟩)
  | (refine ⟨Or.inl ⟨by omega, by omega⟩, ?_⟩)
  | (refine ⟨Or.inr ⟨by omega, by omega⟩, ?_⟩)
  | (refine ⟨(⟨by decide, by decide, by decide⟩ : CPow _ _), ?_⟩)
  | refine Or.inl ⟨_, rfl, ?_⟩
  | refine Or.inr ⟨_, rfl, ?_⟩
  | fail "rd"))
local macro_rules | `(tactic| walk_at "rd") => `(tactic| repeat' walk_at "rd1")
theorem fil_take {ks : List Str} {i : Nat} {z : Str} (hz : ks[i]? = some z) (p : Str → Bool) : (ks.take (i + 1)).filter p = (ks.take i).filter p ++ (if p z = true then [z] else []) := by
  have tk : ks.take (i + 1) = ks.take i ++ [z] := by rw [List.take_succ, hz]; rfl
  rw [tk, List.filter_append]
  congr 1
  rw [List.filter_cons, List.filter_nil]
theorem fil_few {ks : List Str} {i : Nat} (p : Str → Bool) (few : ks.length ≤ 500) : ((((ks.take i).filter p).map V.str)).length < sizeLine := by
  rw [List.length_map, sizeLine_eq]
  have h1 := List.length_filter_le p (ks.take i)
  rw [List.length_take] at h1
  omega
def turnL (ks : List Str) (z : Str) : List Str := if z ∈ ks then ks.filter (fun k => !decide (k = z)) else ks ++ [z]
theorem Sb.turn {hs ks : List Str} {z : Str} (h : Sb hs ks) (hz : z ∈ hs) : Sb hs (turnL ks z) := by
  unfold turnL
  by_cases c : z ∈ ks
  · rw [if_pos c]
    exact ⟨h.nd.sublist List.filter_sublist, fun k hk => h.sub k (List.mem_filter.mp hk).1⟩
  · rw [if_neg c]
    refine ⟨List.nodup_append.mpr ⟨h.nd, by simp, fun a ha b hb e => c (by rw [← List.mem_singleton.mp hb, ← e]; exact ha)⟩, fun k hk => ?_⟩
    rcases List.mem_append.mp hk with hk | hk
    · exact h.sub k hk
    · rw [List.mem_singleton.mp hk]; exact hz
@[irreducible] def spTurned (K : PySem.W.Frag) : Sp := fun vs H Q _ => ∃ (l : Addr) (z : Str) (ks : List Str), vs = [.ref l, .str z] ∧ H l = some (.lst (ks.map V.str)) ∧ ks.length ≤ 100 ∧ ∀ p H', H p = none → Same H H' → H' p = some (.lst ((turnL ks z).map V.str)) → Q (.ref p) H'
theorem use_turned {K : PySem.W.Frag} {H : Hp} {l : Addr} {z : Str} {ks : List Str} {Q : VK} {E : XK} (el : H l = some (.lst (ks.map V.str))) (few : ks.length ≤ 100) (k : ∀ p H', H p = none → Same H H' → H' p = some (.lst ((turnL ks z).map V.str)) → Q (.ref p) H') : spTurned K [.ref l, .str z] H Q E := by
  unfold spTurned
  exact ⟨l, z, ks, rfl, el, few, k⟩
theorem cut_low {xs : List V} (n : Nat) (h : n ≤ xs.length) : cutV xs none (some (n : Int)) = xs.take n := by
  unfold cutV
  rw [HT.sIx_none, HT.sIx_nat, List.drop_zero, Nat.min_eq_left h, Nat.sub_zero]
theorem cut_high {xs : List V} (n : Nat) (h : n ≤ xs.length) : cutV xs (some (n : Int)) none = xs.drop n := by
  unfold cutV
  rw [HT.sIx_none, HT.sIx_nat, Nat.min_eq_left h]
  exact List.take_of_length_le (by rw [List.length_drop]; exact Nat.le_refl _)
@[irreducible] def spNext (K : PySem.W.Frag) : Sp := fun vs H Q _ => ∃ (p q l2 l3 : Addr) (d : Td) (parts keys hands : List Str), vs = [.ref p, .ref q, .ref l2, .ref l3] ∧ StA H p ∧ TdAt H q d ∧ TdG parts keys hands d ∧ H l2 = some (.lst (keys.map V.str)) ∧ H l3 = some (.lst (hands.map V.str)) ∧
  0 < parts.length ∧ parts.length ≤ 3 ∧ 0 < keys.length ∧ keys.length ≤ 50 ∧ 0 < hands.length ∧ hands.length ≤ 50 ∧ hands.Nodup ∧ ∀ q' d' H', TdG parts keys hands d' → H q' = none → TdAt H' q' d' → StA H' p → SameB p H H' → Q (.ref q') H'
section
variable {P : Program} {w : World} {K : PySem.W.Frag} {mg : Str → Option Value} {base : Heap}
theorem sc_law_turned : FnScope ["items", "item", "one"] ["items", "item"] (defScope s_law_turned) := ⟨rfl, rfl, rfl, by decide +kernel, rfl, by decide +kernel, by decide +kernel⟩
theorem ok_turned (D : DefK K mg "_law_turned" s_law_turned) : Cal P w K mg base CX0 1 "_law_turned" (spTurned K) := by
  unfold spTurned
  refine D.cal sc_law_turned (fun _ _ _ _ _ _ us hl => match us, hl with | [_, _], _ => rfl) (fun vs H Q E h => ?_) fun f cdv A outer s H vs Q E hr h => ?_
  · obtain ⟨l, z, ks, rfl, _⟩ := h; rfl
  · obtain ⟨l, z, ks, rfl, el, few, k⟩ := h
    refine ⟨_, (pss_one (ps_ret (pe_ifExp (pt_cmpR (r := rIn K false) op_in_seq (pv 1) (pv 0) rfl) (pe_lc (own := [("one", 2)]) (g := gName 2) (by rfl) sc_law_turned.nd (pi_list (pv 0)) (blkOk_by (own := [("one", 2)]) (N := ["items", "item", "one"]) (sc := defScope s_law_turned) (by decide +kernel)) (fun _ _ _ _ _ => pg_name (i := 2) sc_law_turned.nd rfl (Or.inl rfl)) (fun _ _ _ _ _ => (pts_one (pt_cmpR op_ne (pv 2) (pv 1) (nomark _)))) (fun _ _ _ _ _ => (pv 2))) (pe_op op_cat (pv 0) (pe_lst (pa_cons (pv 1) pa_nil)))))), ?_⟩
    refine ⟨_, rfl, _, rfl, l, _, rfl, .inl (SqL.of el), rfl, flat_strs, _, rfl, ?_⟩
    show if inV (V.str z) (ks.map V.str) = true then _ else _
    rw [inV_strs]
    unfold turnL at k
    by_cases c : z ∈ ks
    · rw [if_pos c] at k
      rw [decide_eq_true c]
      refine iteT ⟨_, rfl, l, rfl, ⟨_, SqL.of el⟩, fun D nD => ?_⟩
      refine lc_list (K := K) (a := l) (xs := ks.map V.str) (fun i H' => H' = upd H D (.lst (((ks.take i).filter fun k => !decide (k = z)).map V.str))) rfl (fun _ H' _ e => by rw [e]; exact SqL.of (same_new nD _ _ el)) ?_ ?_
      · rintro i x H' hx rfl
        obtain ⟨y, hy, rfl⟩ := str_at hx
        refine ⟨rfl, ⟨_, rfl, _, rfl, rfl, _, rfl, ?_⟩⟩
        by_cases c2 : y = z
        · rw [c2, decide_eq_true rfl]
          refine iteF ?_
          rw [c2] at hy
          rw [fil_take hy, decide_eq_true rfl]
          show _ = upd H D (.lst ((((ks.take i).filter fun k => !decide (k = z)) ++ []).map V.str))
          rw [List.append_nil]
        · rw [decide_eq_false (fun e => c2 (V.str.inj e))]
          refine iteT ⟨_, rfl, _, upd_same, fil_few _ (by omega), ?_⟩
          rw [upd_upd, fil_take hy, decide_eq_false c2, List.map_append]; rfl
      · intro H' e
        rw [List.length_map, List.take_length] at e
        rw [e]
        exact k D _ nD (same_new nD) upd_same
    · rw [if_neg c] at k
      rw [decide_eq_false c]
      refine iteF ⟨_, rfl, _, rfl, by show 1 ≤ sizeLine; decide, fun b nb => ?_⟩
      refine ⟨l, b, ks.map V.str, [.str z], rfl, rfl, same_new nb _ _ el, upd_same, by rw [List.length_map, sizeLine_eq]; show ks.length + 1 ≤ _; omega, fun p np => ?_⟩
      have s1 := same_new' (o := .lst (ks.map V.str ++ [.str z])) (same_new (o := .lst [.str z]) nb) np
      exact k p _ ((same_new nb).free np) s1 (by rw [upd_same, List.map_append]; rfl)
theorem sc_law_next : FnScope ["stream", "told", "keys", "hands", "rows", "vouch", "least", "signing", "at", "way", "part", "likes", "own"] ["stream", "told", "keys", "hands"] (defScope s_law_next) := ⟨rfl, rfl, rfl, by decide +kernel, rfl, by decide +kernel, by decide +kernel⟩
theorem ok_next (D : DefK K mg "_law_next" s_law_next) (T : Txt K mg) (G_law_draw : Cal P w K mg base CX0 1 "_law_draw" spDr) (G_law_choose : Cal P w K mg base CX0 2 "_law_choose" (spCh K)) (G_law_some : Cal P w K mg base CX0 2 "_law_some" (spSome K)) (G_law_turned : Cal P w K mg base CX0 1 "_law_turned" (spTurned K)) : Cal P w K mg base CX0 3 "_law_next" (spNext K) := by
  unfold spNext
  refine D.cal sc_law_next (fun _ _ _ _ _ _ us hl => match us, hl with | [_, _, _, _], _ => rfl) (fun vs H Q E h => ?_) fun f cdv A outer s H vs Q E hr h => ?_
  · obtain ⟨p, q, l2, l3, d, parts, keys, hands, rfl, _⟩ := h; rfl
  · obtain ⟨p, q, l2, l3, d, parts, keys, hands, rfl, st, tda, tdg, ek, eh, p0, p3, k0, k5, h0, h5, hn, k⟩ := h
    refine ⟨_, (pss_cons (ps_asg (pv 1) (pg_tup rfl (pgs_cons (pg_name (i := 4) sc_law_next.nd rfl (Or.inl rfl)) (pgs_cons (pg_name (i := 5) sc_law_next.nd rfl (Or.inl rfl)) (pgs_cons (pg_name (i := 6) sc_law_next.nd rfl (Or.inl rfl)) (pgs_cons (pg_name (i := 7) sc_law_next.nd rfl (Or.inl rfl)) pgs_nil))))))
      (pss_cons (ps_par (i := 8) (j := 9) (by rfl) sc_law_next.nd rfl rfl (by decide) rfl rfl (pa_cons (pe_c G_law_draw hr (by decide) rfl (pa_cons (pv 0) (pa_cons (pe_callB call_len_seq (by rfl) T.b_len (by decide +kernel) (pa_cons (pv 4) pa_nil)) pa_nil))) (pa_cons (pe_c G_law_draw hr (by decide) rfl (pa_cons (pv 0) (pa_cons pe_int pa_nil))) pa_nil)) (by rfl))
      (pss_cons (ps_asg (pe_ix (r := rIxL K) ix_list (pv 4) (pv 8) (fun _ _ => rfl)) (pg_tup rfl (pgs_cons (pg_name (i := 10) sc_law_next.nd rfl (Or.inl rfl)) (pgs_cons (pg_name (i := 11) sc_law_next.nd rfl (Or.inl rfl)) (pgs_cons (pg_name (i := 12) sc_law_next.nd rfl (Or.inl rfl)) pgs_nil)))))
      (C8.pss_cut (ps_if (pt_cmpR op_lt (pv 9) pe_int (nomark _)) (pss_one (ps_set (i := 11) sc_law_next.nd rfl (Or.inl rfl) (pe_c G_law_turned hr (by decide) rfl (pa_cons (pv 11) (pa_cons (pe_c G_law_choose hr (by decide) rfl (pa_cons (pv 0) (pa_cons (pv 2) pa_nil))) pa_nil))))) (pss_one (ps_if (pt_cmpR op_lt (pv 9) pe_int (nomark _)) (pss_one (ps_set (i := 12) sc_law_next.nd rfl (Or.inl rfl) (pe_c G_law_choose hr (by decide) rfl (pa_cons (pv 0) (pa_cons (pe_slice sl_list (pe_op op_cat (pv 11) (pv 2)) po_none (po_some (pe_callB (call_max2 rfl) (by rfl) T.b_max (by decide +kernel) (pa_cons pe_int (pa_cons (pe_callB call_len_seq (by rfl) T.b_len (by decide +kernel) (pa_cons (pv 11) pa_nil)) pa_nil))))) pa_nil))))) (pss_one (ps_if (pt_cmpR op_eq (pv 9) pe_int (nomark _)) (pss_one (ps_set (i := 5) sc_law_next.nd rfl (Or.inl rfl) (pe_c G_law_turned hr (by decide) rfl (pa_cons (pv 5) (pa_cons (pe_c G_law_choose hr (by decide) rfl (pa_cons (pv 0) (pa_cons (pv 3) pa_nil))) pa_nil))))) (pss_one (ps_if (pt_cmpR op_eq (pv 9) pe_int (nomark _)) (pss_one (ps_set (i := 7) sc_law_next.nd rfl (Or.inl rfl) (pe_c G_law_some hr (by decide) rfl (pa_cons (pv 0) (pa_cons (pv 3) pa_nil))))) (pss_one (ps_set (i := 6) sc_law_next.nd rfl (Or.inl rfl) (pe_c G_law_draw hr (by decide) rfl (pa_cons (pv 0) (pa_cons pe_int pa_nil))))))))))))
      (pss_one (ps_ret (pe_tup (pa_cons (pe_op op_cat (pe_op op_cat (pe_slice sl_list (pv 4) po_none (po_some (pv 8))) (pe_lst (pa_cons (pe_tup (pa_cons (pv 10) (pa_cons (pv 11) (pa_cons (pv 12) pa_nil)))) pa_nil))) (pe_slice sl_list (pv 4) (po_some (pe_op op_add (pv 8) pe_int)) po_none)) (pa_cons (pv 5) (pa_cons (pv 6) (pa_cons (pv 7) pa_nil))))))))))), ?_⟩
    obtain ⟨⟨lr, lv, sv, e1, e2, e3, e4⟩, rs⟩ := id tda
    have rl : d.rows.length = parts.length := by rw [← tdg.zs, List.length_map]
    refine ⟨_, rfl, q, _, rfl, SqT.of e1, rfl, _, _, rfl, _, _, rfl, _, _, rfl, _, _, rfl, rfl, ?_⟩
    refine ⟨_, rfl, _, rfl, lr, _, rfl, .inl (SqL.of e2), use_draw st (by rw [List.length_map, List.length_map, rl]; omega) (by rw [List.length_map, List.length_map, rl]; omega) fun at_ H1 a0 a1 st1 s1 => ?_⟩
    rw [List.length_map, List.length_map, rl] at a1
    refine ⟨_, rfl, use_draw st1 (by decide) (by decide) fun way H2 w0 w1 st2 s2 => ⟨_, _, rfl, ?_⟩⟩
    have s02 := s1.trans s2
    have td2 := tda.keep st s02
    obtain ⟨n, rfl⟩ : ∃ n : Nat, at_ = (n : Int) := ⟨at_.toNat, by omega⟩
    have hn3 : n < d.rows.length := by omega
    have ern : d.rows[n]? = some (d.rows[n]'hn3) := List.getElem?_eq_getElem hn3
    generalize d.rows[n]'hn3 = r at ern
    have hr2 := List.mem_of_getElem? ern
    have er2 := s02 _ _ e2 (st.no e2 refs_no)
    have R2 := (rs r hr2).keep st s02
    obtain ⟨ru, rk⟩ := tdg.rows r hr2
    have rlen := rk.len
    have vlen := tdg.vo.len
    refine ⟨_, rfl, _, rfl, lr, _, _, .ref r.t, rfl, rfl, SqL.of er2, atI_nat (by rw [List.getElem?_map, List.getElem?_map, ern]; rfl), r.t, _, rfl, SqT.of R2.tp, rfl, _, _, rfl, _, _, rfl, _, _, rfl, rfl, ?_⟩
    have ek2 := s02 _ _ ek (st.neS ek)
    have eh2 := s02 _ _ eh (st.neS eh)
    have ev2 := s02 _ _ e3 (st.neS e3)
    have sg2 := e4.keep st s02
    refine ⟨fun σ' H' => ∃ (la lv' : Addr) (ks vo : List Str) (u : Str) (le : Int) (sv' : V) (sg : Option (List Str)), σ' = [some (.ref p), some (.ref q), some (.ref l2), some (.ref l3), some (.ref lr), some (.ref lv'), some (.int le), some sv', some (.int n), some (.int way), some (.str r.z), some (.ref la), some (.str u)] ∧ StA H' p ∧ SameB p H H' ∧ H' la = some (.lst (ks.map V.str)) ∧ Sb keys ks ∧ u ∈ keys ∧ H' lv' = some (.lst (vo.map V.str)) ∧ Sb hands vo ∧ 0 ≤ le ∧ le ≤ 4 ∧ SgAt H' sv' sg ∧ ∀ ks, sg = some ks → Sb hands ks, ?_, ?_⟩
    · refine ⟨_, rfl, _, _, rfl, rfl, _, rfl, ?_⟩
      by_cases c1 : way < 3
      · refine iteTe (decide_eq_true c1) ⟨_, rfl, _, rfl, _, rfl, use_choose st2 (SqL.of ek2) (st2.neS ek2) (by rw [List.length_map]; exact k0) (by rw [List.length_map]; omega) fun v H3 hv st3 s3 => ?_⟩
        obtain ⟨z, hz, rfl⟩ := str_mem hv
        refine use_turned (s3 _ _ R2.ls (st2.neS R2.ls)) (by omega) fun la H4 nla s4 e4' => ⟨la, lv, turnL r.ks z, d.vo, r.u, d.le, sv, d.sg, rfl, st3.keep s4, s02.trans (s3.trans (SameB.of s4)), e4', rk.turn hz, ru, s4 _ _ (s3 _ _ ev2 (st2.neS ev2)), tdg.vo, tdg.le.1, tdg.le.2, sg2.keep st2 (s3.trans (SameB.of s4)), tdg.sg⟩
      refine iteFe (decide_eq_false c1) ⟨_, rfl, _, _, rfl, rfl, _, rfl, ?_⟩
      by_cases c2 : way < 5
      · refine iteTe (decide_eq_true c2) ⟨_, rfl, _, rfl, _, rfl, r.a, l2, _, _, rfl, rfl, R2.ls, ek2, by rw [List.length_map, List.length_map, sizeLine_eq]; omega, fun pc npc => ?_⟩
        have sc := same_new (o := .lst (r.ks.map V.str ++ keys.map V.str)) npc
        refine ⟨_, rfl, r.a, _, rfl, .inl (SqL.of (sc _ _ R2.ls)), _, _, rfl, _, rfl, pc, _, rfl, SqL.of upd_same, fun ps nps => ?_⟩
        have em : (if ((r.ks.map V.str).length : Int) > 1 then ((r.ks.map V.str).length : Int) else 1) = ((max 1 r.ks.length : Nat) : Int) := by
          rw [List.length_map]; split <;> omega
        rw [em, ← List.map_append, cut_low _ (by rw [List.length_map, List.length_append]; omega)]
        have sp_ := same_new' (o := .lst (((r.ks ++ keys).map V.str).take (max 1 r.ks.length))) sc nps
        rw [← List.map_append] at sp_
        refine use_choose (st2.keep sp_) (SqL.of upd_same) ((st2.keep sc).ne nps) (by rw [List.length_take, List.length_map, List.length_append]; omega) (by rw [List.length_take, List.length_map, List.length_append]; omega) fun v H3 hv st3 s3 => ?_
        obtain ⟨z, hz, rfl⟩ := str_mem (List.mem_of_mem_take hv)
        have zk : z ∈ keys := (List.mem_append.mp hz).elim (rk.sub z) id
        have s23 := (SameB.of (p := p) sp_).trans s3
        exact ⟨r.a, lv, r.ks, d.vo, z, d.le, sv, d.sg, rfl, st3, s02.trans s23, s23 _ _ R2.ls (st2.neS R2.ls), rk, zk, s23 _ _ ev2 (st2.neS ev2), tdg.vo, tdg.le.1, tdg.le.2, sg2.keep st2 s23, tdg.sg⟩
      refine iteFe (decide_eq_false c2) ⟨_, rfl, rfl, _, rfl, ?_⟩
      by_cases c3 : way = 5
      · refine iteTe (decide_eq_true (by rw [c3])) ⟨_, rfl, _, rfl, _, rfl, use_choose st2 (SqL.of eh2) (st2.neS eh2) (by rw [List.length_map]; exact h0) (by rw [List.length_map]; omega) fun v H3 hv st3 s3 => ?_⟩
        obtain ⟨z, hz, rfl⟩ := str_mem hv
        refine use_turned (s3 _ _ ev2 (st2.neS ev2)) (by omega) fun la H4 nla s4 e4' => ⟨r.a, la, r.ks, turnL d.vo z, r.u, d.le, sv, d.sg, rfl, st3.keep s4, s02.trans (s3.trans (SameB.of s4)), s4 _ _ (s3 _ _ R2.ls (st2.neS R2.ls)), rk, ru, e4', tdg.vo.turn hz, tdg.le.1, tdg.le.2, sg2.keep st2 (s3.trans (SameB.of s4)), tdg.sg⟩
      refine iteFe (decide_eq_false (fun e => c3 (V.int.inj e))) ⟨_, rfl, rfl, _, rfl, ?_⟩
      by_cases c4 : way = 6
      · refine iteTe (decide_eq_true (by rw [c4])) ⟨_, rfl, _, rfl, use_some st2 eh2 (by omega) fun D us H3 nD sub e3' st3 s3 => ⟨r.a, lv, r.ks, d.vo, r.u, d.le, .ref D, some us, rfl, st3, s02.trans s3, s3 _ _ R2.ls (st2.neS R2.ls), rk, ru, s3 _ _ ev2 (st2.neS ev2), tdg.vo, tdg.le.1, tdg.le.2, ⟨D, rfl, e3'⟩, fun ks e => by
          rw [← Option.some.inj e]; exact ⟨hn.sublist sub, fun k hk => sub.subset hk⟩⟩⟩
      refine iteFe (decide_eq_false (fun e => c4 (V.int.inj e))) ⟨_, rfl, use_draw st2 (by decide) (by decide) fun le H3 b0 b1 st3 s3 => ⟨r.a, lv, r.ks, d.vo, r.u, le, sv, d.sg, rfl, st3, s02.trans s3, s3 _ _ R2.ls (st2.neS R2.ls), rk, ru, s3 _ _ ev2 (st2.neS ev2), tdg.vo, b0, by omega, sg2.keep st2 s3, tdg.sg⟩⟩
    · rintro σ' H' ⟨la, lv', ks, vo, u, le, sv', sg, rfl, st', s', ela, skS, uK, elv, vS, le0, le4, sgA, sgS⟩
      have er' := s' _ _ e2 (st.no e2 refs_no)
      have ro' : ∀ x ∈ d.rows, TRow H' x := fun x hx => (rs x hx).keep st s'
      have ll : ((d.rows.map (·.t)).map V.ref).length = d.rows.length := by rw [List.length_map, List.length_map]
      refine ⟨_, rfl, _, rfl, n, rfl, lr, _, rfl, SqL.of er', fun pa npa => ?_⟩
      rw [cut_low n (by rw [ll]; omega)]
      have g1 := same_new (o := .lst (((d.rows.map (·.t)).map V.ref).take n)) npa
      refine ⟨_, rfl, _, rfl, _, rfl, by show 3 ≤ sizeLine; decide, fun tn ntn => ⟨by show 1 ≤ sizeLine; decide, fun pb npb => ?_⟩⟩
      have g2 := same_new (o := .tup [.str r.z, .ref la, .str u]) ntn
      have g3 := same_new (o := .lst [.ref tn]) npb
      refine ⟨pa, pb, _, _, rfl, rfl, g3 _ _ (g2 _ _ upd_same), upd_same, by rw [List.length_take, ll, sizeLine_eq]; show min n d.rows.length + 1 ≤ _; omega, fun pc npc => ?_⟩
      have g4 := same_new (o := .lst (((d.rows.map (·.t)).map V.ref).take n ++ [.ref tn])) npc
      have g14 := ((g1.trans g2).trans g3).trans g4
      refine ⟨_, rfl, _, rfl, n, 1, rfl, rfl, _, rfl, lr, _, rfl, SqL.of (g14 _ _ er'), fun pd npd => ?_⟩
      rw [show ((n : Int) + 1) = ((n + 1 : Nat) : Int) by omega, cut_high (n + 1) (by rw [ll]; omega)]
      have g5 := same_new (o := .lst (((d.rows.map (·.t)).map V.ref).drop (n + 1))) npd
      refine ⟨pc, pd, _, _, rfl, rfl, g5 _ _ upd_same, upd_same, by rw [List.length_append, List.length_take, List.length_drop, ll, sizeLine_eq]; show min n d.rows.length + 1 + _ ≤ _; omega, fun pe npe => ?_⟩
      have g6 := same_new (o := .lst (((d.rows.map (·.t)).map V.ref).take n ++ [.ref tn] ++ ((d.rows.map (·.t)).map V.ref).drop (n + 1))) npe
      refine ⟨_, rfl, _, rfl, _, rfl, by show 4 ≤ sizeLine; decide, fun q' nq' => ?_⟩
      have g7 := same_new (o := .tup [.ref pe, .ref lv', .int le, sv']) nq'
      have g17 := ((g14.trans g5).trans g6).trans g7
      have sp : d.rows = d.rows.take n ++ r :: d.rows.drop (n + 1) := by
        have z1 := List.getElem?_eq_some_iff.mp ern
        obtain ⟨hlt, ez⟩ := z1
        rw [← ez, List.getElem_cons_drop, List.take_append_drop]
      have eT : (((d.rows.take n ++ [(⟨r.z, tn, la, ks, u⟩ : Use)] ++ d.rows.drop (n + 1)).map fun x : Use => x.t).map V.ref : List V) = ((d.rows.map (·.t)).map V.ref).take n ++ [.ref tn] ++ ((d.rows.map (·.t)).map V.ref).drop (n + 1) := by
        simp only [List.map_append, List.map_take, List.map_drop, List.map_cons, List.map_nil]
      refine k q' ⟨d.rows.take n ++ [⟨r.z, tn, la, ks, u⟩] ++ d.rows.drop (n + 1), vo, le, sg⟩ _ ⟨?_, fun x hx => ?_, vS, ⟨le0, le4⟩, sgS⟩ (by
        have z0 := (((g14.trans g5).trans g6)).free nq'
        have qp : q' ≠ p := (st'.keep ((g14.trans g5).trans g6)).ne nq'
        exact s'.free z0 qp) ⟨⟨pe, lv', sv', upd_same, g7 _ _ (by rw [upd_same, eT]), g17 _ _ elv, ?_⟩, fun x hx => ?_⟩ (st'.keep g17) (s'.trans (SameB.of g17))
      · have z1 := tdg.zs
        rw [sp] at z1
        rw [← z1]
        simp only [List.map_append, List.map_cons, List.map_nil, List.append_assoc, List.cons_append, List.nil_append]
      · rcases List.mem_append.mp hx with hx | hx
        · rcases List.mem_append.mp hx with hx | hx
          · exact tdg.rows x (List.mem_of_mem_take hx)
          · rw [List.mem_singleton.mp hx]; exact ⟨uK, skS⟩
        · exact tdg.rows x (List.mem_of_mem_drop hx)
      · show SgAt _ sv' sg
        cases sg with
        | none => exact sgA
        | some ks2 =>
          obtain ⟨l0, a1, a2⟩ := sgA
          exact ⟨l0, a1, g17 _ _ a2⟩
      · have ktr : ∀ x ∈ d.rows, TRow _ x := fun x hx => ⟨g17 _ _ (ro' x hx).tp, g17 _ _ (ro' x hx).ls⟩
        rcases List.mem_append.mp hx with hx | hx
        · rcases List.mem_append.mp hx with hx | hx
          · exact ktr x (List.mem_of_mem_take hx)
          · rw [List.mem_singleton.mp hx]
            exact ⟨(((g3.trans g4).trans g5).trans (g6.trans g7)) _ _ upd_same, g17 _ _ ela⟩
        · exact ktr x (List.mem_of_mem_drop hx)
end
end K26C
namespace K26C
open PySem PySem.Spec PyProof.Rows L2 Jg
local macro_rules | `(tactic| walk_at "rd1") => `(tactic| (first
  | refine ⟨_, rfl, ?_⟩
  | refine ⟨_, _, rfl, rfl, ?_⟩
  | refine ⟨_, _, rfl, ?_⟩
  | refine ⟨rfl, ?_⟩
  | (refine ⟨show (0 : Int) < _ by omega, ?_⟩)
  | (refine ⟨Or.inl ⟨by omega, by omega⟩, ?_⟩)
  | (refine ⟨Or.inr ⟨by omega, by omega⟩, ?_⟩)
  | (refine ⟨(⟨by decide, by decide, by decide⟩ : CPow _ _), ?_⟩)
  | refine Or.inl ⟨_, rfl, ?_⟩
  | refine Or.inr ⟨_, rfl, ?_⟩
  | fail "rd"))
local macro_rules | `(tactic| walk_at "rd") => `(tactic| repeat' walk_at "rd1")
theorem hid_same {M : List Addr} {H : Hp} : Same (hid M H) H := fun q o e => (hid_get e).1
theorem hid_keepB {M : List Addr} {p : Addr} {H H' : Hp} (s : SameB p H H') : SameB p (hid M H) (hid M H') := fun q o e n => hid_in (s _ _ (hid_get e).1 n) (hid_get e).2
theorem hid_mut {f : Addr} {H : Hp} {o : HO} : hid [f] (upd H f o) = hid [f] H := funext fun q => by
  unfold hid
  by_cases c : q ∈ [f]
  · rw [if_pos c, if_pos c]
  · rw [if_neg c, if_neg c, upd_ne (fun e => c (by rw [e]; exact List.mem_singleton.mpr rfl))]
theorem TdAt.hide {H : Hp} {q f q0 : Addr} {qs : List Addr} {d : Td} (h : TdAt H q d) (rn : d.rows ≠ []) (ef : H f = some (.lst ((q0 :: qs).map V.ref))) (e0 : ∃ a b c e, H q0 = some (.tup [a, b, c, e])) : TdAt (hid [f] H) q d := by
  obtain ⟨⟨lr, lv, sv, e1, e2, e3, e4⟩, rs⟩ := h
  have tup : ∀ {x : Addr} {xs : List V}, H x = some (.tup xs) → hid [f] H x = some (.tup xs) := fun e => hid_in e fun m => by
    rw [List.mem_singleton.mp m, ef] at e; cases e
  have txt : ∀ {x : Addr} {ks : List Str}, H x = some (.lst (ks.map V.str)) → hid [f] H x = some (.lst (ks.map V.str)) := fun {x ks} e => hid_in e fun m => by
    rw [List.mem_singleton.mp m, ef] at e
    cases ks with
    | nil => cases e
    | cons a r => injection e with e; injection e with e; injection e with e1 e2; cases e1
  refine ⟨⟨lr, lv, sv, tup e1, hid_in e2 fun m => ?_, txt e3, ?_⟩, fun r hr => ⟨tup (rs r hr).tp, txt (rs r hr).ls⟩⟩
  · rw [List.mem_singleton.mp m, ef] at e2
    cases hd : d.rows with
    | nil => exact rn hd
    | cons r0 rr =>
      rw [hd] at e2
      injection e2 with e2; injection e2 with e2; injection e2 with a1 a2
      have z := (rs r0 (by rw [hd]; exact List.mem_cons_self)).tp
      obtain ⟨a, b, c, e, ee⟩ := e0
      have a1' : q0 = r0.t := V.ref.inj a1
      rw [← a1', ee] at z
      cases z
  · cases hs : d.sg with
    | none => rw [hs] at e4; exact e4
    | some ks =>
      rw [hs] at e4
      obtain ⟨l0, a1, a2⟩ := e4
      exact ⟨l0, a1, txt a2⟩
theorem TdsAt.app {parts keys hands : List Str} {H : Hp} : ∀ {qs q2 : List Addr} {ds d2 : List Td}, TdsAt parts keys hands H qs ds → TdsAt parts keys hands H q2 d2 → TdsAt parts keys hands H (qs ++ q2) (ds ++ d2)
  | _, _, _, _, .nil, h => h
  | _, _, _, _, .cons a g r, h => .cons a g (r.app h)
theorem use_told {K : PySem.W.Frag} {H : Hp} {p l1 l2 l3 : Addr} {parts keys hands : List Str} {Q : VK} {E : XK} (g : Gn p l1 l2 l3 parts keys hands H) (w : Wn parts keys hands) (k : ∀ q d H', TdG parts keys hands d → H q = none → TdAt H' q d → StA H' p → SameB p H H' → Q (.ref q) H') : spTold K [.ref p, .ref l1, .ref l2, .ref l3] H Q E :=
  ⟨p, l1, l2, l3, parts, keys, hands, rfl, g.st, g.e1, g.e2, g.e3, w.p3, w.k0, w.k5, w.kn, w.h5, fun q d H' ok nq td st s => k q d H' (ok.g w.hn) nq td st s⟩
theorem use_next {K : PySem.W.Frag} {H : Hp} {p q l1 l2 l3 : Addr} {d : Td} {parts keys hands : List Str} {Q : VK} {E : XK} (g : Gn p l1 l2 l3 parts keys hands H) (w : Wn parts keys hands) (td : TdAt H q d) (tg : TdG parts keys hands d) (k : ∀ q' d' H', TdG parts keys hands d' → H q' = none → TdAt H' q' d' → StA H' p → SameB p H H' → Q (.ref q') H') : spNext K [.ref p, .ref q, .ref l2, .ref l3] H Q E := by
  unfold spNext
  exact ⟨p, q, l2, l3, d, parts, keys, hands, rfl, g.st, td, tg, g.e2, g.e3, w.p0, w.p3, w.k0, w.k5, w.h0, w.h5, w.hn, k⟩
@[irreducible] def spToldI (K : PySem.W.Frag) : Sp := spTold K
theorem use_toldI {K : PySem.W.Frag} {H : Hp} {p l1 l2 l3 : Addr} {parts keys hands : List Str} {Q : VK} {E : XK} (g : Gn p l1 l2 l3 parts keys hands H) (w : Wn parts keys hands) (k : ∀ q d H', TdG parts keys hands d → H q = none → TdAt H' q d → StA H' p → SameB p H H' → Q (.ref q) H') : spToldI K [.ref p, .ref l1, .ref l2, .ref l3] H Q E := by
  unfold spToldI
  exact use_told g w k
theorem TdG.rn {parts keys hands : List Str} {d : Td} (g : TdG parts keys hands d) (w : Wn parts keys hands) : d.rows ≠ [] := fun e => by
  have z := g.zs
  rw [e] at z
  have := w.p0
  rw [← z] at this
  cases this
theorem TdAt.four {H : Hp} {q : Addr} {d : Td} (h : TdAt H q d) : ∃ a b c e, H q = some (.tup [a, b, c, e]) := let ⟨⟨_, _, _, e, _⟩, _⟩ := h; ⟨_, _, _, _, e⟩
@[irreducible] def spTolds (K : PySem.W.Frag) : Sp := fun vs H Q _ => ∃ (p l1 l2 l3 : Addr) (n : Nat) (parts keys hands : List Str), vs = [.ref p, .int n, .ref l1, .ref l2, .ref l3] ∧ Gn p l1 l2 l3 parts keys hands H ∧ Wn parts keys hands ∧ 1 ≤ n ∧ n ≤ 100 ∧
  ∀ f qs ds H', H f = none → f ≠ p → qs.length = n → H' f = some (.lst (qs.map V.ref)) → TdsAt parts keys hands H' qs ds → StA H' p → SameB p H H' → Q (.ref f) H'
section
variable {P : Program} {w : World} {K : PySem.W.Frag} {mg : Str → Option Value} {base : Heap}
theorem sc_law_tolds : FnScope ["stream", "count", "parts", "keys", "hands", "found", "turn", "later"] ["stream", "count", "parts", "keys", "hands"] (defScope s_law_tolds) := ⟨rfl, rfl, rfl, by decide +kernel, rfl, by decide +kernel, by decide +kernel⟩
theorem ok_tolds (D : DefK K mg "_law_tolds" s_law_tolds) (T : Txt K mg) (G_law_draw : Cal P w K mg base CX0 1 "_law_draw" spDr) (G_law_told : Cal P w K mg base CX0 3 "_law_told" (spToldI K)) (G_law_next : Cal P w K mg base CX0 3 "_law_next" (spNext K)) : Cal P w K mg base CX0 4 "_law_tolds" (spTolds K) := by
  unfold spTolds
  refine D.cal sc_law_tolds (fun _ _ _ _ _ _ us hl => match us, hl with | [_, _, _, _, _], _ => rfl) (fun vs H Q E h => ?_) fun f0 cdv A outer s H vs Q E hr h => ?_
  · obtain ⟨p, l1, l2, l3, n, parts, keys, hands, rfl, _⟩ := h; rfl
  · obtain ⟨p, l1, l2, l3, n, parts, keys, hands, rfl, g, wn, n1, n9, k⟩ := h
    refine ⟨_, (pss_cons (ps_set (i := 5) sc_law_tolds.nd rfl (Or.inl rfl) (pe_lst (pa_cons (pe_c G_law_told hr (by decide) rfl (pa_cons (pv 0) (pa_cons (pv 2) (pa_cons (pv 3) (pa_cons (pv 4) pa_nil))))) pa_nil)))
      (pss_cons (ps_for PassesOwn.never rfl (pi_range1 (by rfl) T.b_range (pa_cons (pe_op op_sub (pv 1) pe_int) pa_nil)) (pg_name (i := 6) sc_law_tolds.nd rfl (Or.inl rfl)) (pss_cons (ps_set (i := 7) sc_law_tolds.nd rfl (Or.inl rfl) (pe_c G_law_next hr (by decide) rfl (pa_cons (pv 0) (pa_cons (pe_ix (r := rIxL K) ix_list (pv 5) (pe_un un_neg pe_int) (fun _ _ => rfl)) (pa_cons (pv 3) (pa_cons (pv 4) pa_nil))))))
      (pss_one (ps_expr (pe_bm F.plainAttrs_list F.slot_list_append F.type_list_append mt_append (pv 5) (pa_cons (pe_ifExp (pt_cmpR op_gt (pe_c G_law_draw hr (by decide) rfl (pa_cons (pv 0) (pa_cons pe_int pa_nil))) pe_int (nomark _)) (pv 7) (pe_c G_law_next hr (by decide) rfl (pa_cons (pv 0) (pa_cons (pv 7) (pa_cons (pv 3) (pa_cons (pv 4) pa_nil)))))) pa_nil))))))
      (pss_one (ps_ret (pv 5))))), ?_⟩
    refine ⟨_, rfl, _, rfl, _, rfl, _, rfl, use_toldI g wn fun q0 d0 H1 g0 nq0 td0 st1 s1 => ⟨by show 1 ≤ sizeLine; decide, fun f nf => ?_⟩⟩
    have fp : f ≠ p := st1.ne nf
    have ef : upd H1 f (.lst [.ref q0]) f = some (.lst [.ref q0]) := upd_same
    have sf := same_new (o := .lst [.ref q0]) nf
    have nfH : H f = none := s1.free nf fp
    have td0f : TdAt (upd H1 f (.lst [.ref q0])) q0 d0 := td0.same sf
    have ih0 : TdsAt parts keys hands (hid [f] (upd H1 f (.lst [.ref q0]))) [q0] [d0] := .cons (td0f.hide (g0.rn wn) (qs := []) ef td0f.four) g0 .nil
    have st2 := st1.keep sf
    have s2 := s1.trans (SameB.of sf)
    generalize upd H1 f (.lst [.ref q0]) = H2 at *
    refine ⟨_, rfl, _, _, rfl, rfl, _, rfl, by omega, by omega, ?_⟩
    refine for_range (lo := 0) (fun i sg Hi => ∃ (v6 v7 : Option V) (qs : List Addr) (ds : List Td), sg = [some (.ref p), some (.int n), some (.ref l1), some (.ref l2), some (.ref l3), some (.ref f), v6, v7] ∧ StA Hi p ∧ SameB p H Hi ∧ Hi f = some (.lst ((q0 :: qs).map V.ref)) ∧ qs.length = i ∧ TdsAt parts keys hands (hid [f] Hi) (q0 :: qs) (d0 :: ds)) ⟨_, _, [], [], rfl, st2, s2, ef, rfl, ih0⟩ ?_ ?_
    · rintro i sg Hi hi ⟨v6, v7, qs, ds, rfl, sti, si, efi, ql, ih⟩
      have sth : StA (hid [f] Hi) p := by
        obtain ⟨a, b, e, h⟩ := sti
        exact ⟨a, b, hid_in e (fun m => fp (List.mem_singleton.mp m).symm), h⟩
      have four0 : ∀ {Hx : Hp}, SameB p Hi Hx → ∃ a b c e, Hx q0 = some (.tup [a, b, c, e]) := fun {Hx} s => by
        cases ih with | cons a _ _ => exact ((a.same hid_same).keep sti s).four
      have fin : ∀ (qx : Addr) (dx : Td) (Hx : Hp) (v7 : Option V), TdAt Hx qx dx → TdG parts keys hands dx → StA Hx p → SameB p Hi Hx → ∃ (v6 v7' : Option V) (qs2 : List Addr) (ds2 : List Td), ([some (.ref p), some (.int n), some (.ref l1), some (.ref l2), some (.ref l3), some (.ref f), some (.int (0 + (i : Int))), v7] : L2.St) = [some (.ref p), some (.int n), some (.ref l1), some (.ref l2), some (.ref l3), some (.ref f), v6, v7'] ∧ StA (upd Hx f (.lst ((q0 :: qs).map V.ref ++ [.ref qx]))) p ∧ SameB p H (upd Hx f (.lst ((q0 :: qs).map V.ref ++ [.ref qx]))) ∧ upd Hx f (.lst ((q0 :: qs).map V.ref ++ [.ref qx])) f = some (.lst ((q0 :: qs2).map V.ref)) ∧ qs2.length = i + 1 ∧ TdsAt parts keys hands (hid [f] (upd Hx f (.lst ((q0 :: qs).map V.ref ++ [.ref qx])))) (q0 :: qs2) (d0 :: ds2) := fun qx dx Hx v7 tx gx stx sx => by
        have efx := sx _ _ efi fp
        refine ⟨_, _, qs ++ [qx], ds ++ [dx], rfl, ?_, fun q o e nn => by rw [upd_ne (ne_of_none e nfH)]; exact sx _ _ (si _ _ e nn) nn, by rw [upd_same, List.map_cons, List.map_cons, List.map_append]; rfl, by rw [List.length_append, ql]; rfl, ?_⟩
        · obtain ⟨a, b, e, h⟩ := stx
          exact ⟨a, b, by rw [upd_ne fp.symm]; exact e, h⟩
        · rw [hid_mut]
          exact (ih.keep sth (hid_keepB sx)).app (.cons (tx.hide (gx.rn wn) efx (four0 sx)) gx .nil)
      have lt : i < (q0 :: qs).length := by rw [List.length_cons, ql]; omega
      have eq : (q0 :: qs)[i]? = some ((q0 :: qs)[i]'lt) := List.getElem?_eq_getElem lt
      have el : (q0 :: qs).map V.ref = ((q0 :: qs).take i).map V.ref ++ [V.ref ((q0 :: qs)[i]'lt)] := by
        have z := List.take_succ (l := q0 :: qs) (i := i)
        rw [eq, List.take_of_length_le (by rw [List.length_cons, ql]; omega)] at z
        conv => lhs; rw [z]
        rw [List.map_append]; rfl
      generalize (q0 :: qs)[i]'lt = qe at eq el
      obtain ⟨de, _, te, ge⟩ := ih.at_ eq
      have te' : TdAt Hi qe de := te.same hid_same
      have gi := g.keep si sti
      refine ⟨_, rfl, _, rfl, _, rfl, f, _, _, _, rfl, rfl, SqL.of efi, by rw [el]; exact atI_last _ _, _, rfl, _, rfl, use_next gi wn te' ge fun q1 d1 Ha g1 nq1 t1 sta sa => ?_⟩
      refine ⟨_, rfl, .inl ⟨rfl, _, .inl (.inl (sa _ _ efi fp))⟩, ?_⟩
      refine ⟨_, rfl, use_draw sta (by decide) (by decide) fun v Hb v0 v1 stb sb => ⟨_, _, rfl, rfl, _, rfl, ?_⟩⟩
      by_cases c : 0 < v
      · refine iteTe (decide_eq_true c) ⟨_, rfl, f, _, _, rfl, rfl, (sa.trans sb) _ _ efi fp, by rw [List.length_map, List.length_cons, ql, sizeLine_eq]; omega, fin q1 d1 Hb _ (t1.keep sta sb) g1 stb (sa.trans sb)⟩
      · have gb := gi.keep (sa.trans sb) stb
        refine iteFe (decide_eq_false c) ⟨_, rfl, _, rfl, _, rfl, _, rfl, use_next gb wn (t1.keep sta sb) g1 fun q2 d2 Hc g2 nq2 t2 stc sc => ⟨f, _, _, rfl, rfl, ((sa.trans sb).trans sc) _ _ efi fp, by rw [List.length_map, List.length_cons, ql, sizeLine_eq]; omega, fin q2 d2 Hc _ t2 g2 stc ((sa.trans sb).trans sc)⟩⟩
    · rintro sg Hi ⟨v6, v7, qs, ds, rfl, sti, si, efi, ql, ih⟩
      exact ⟨_, rfl, k f (q0 :: qs) (d0 :: ds) Hi nfH fp (by rw [List.length_cons, ql]; omega) efi (ih.same hid_same) sti si⟩
end
end K26C
namespace K26C
open PySem PySem.Spec PyProof.Rows L2 Jg
local macro_rules | `(tactic| walk_at "rd1") => `(tactic| (first
  | refine ⟨_, rfl, ?_⟩
  | refine ⟨_, _, rfl, rfl, ?_⟩
  | refine ⟨_, _, rfl, ?_⟩
  | refine ⟨rfl, ?_⟩
  | (refine ⟨show (0 : Int) < _ by omega, ?_⟩)
  | (refine ⟨Or.inl ⟨by omega, by omega⟩, ?_⟩)
  | (refine ⟨Or.inr ⟨by omega, by omega⟩, ?_⟩)
  | (refine ⟨(⟨by decide, by decide, by decide⟩ : CPow _ _), ?_⟩)
  | refine Or.inl ⟨_, rfl, ?_⟩
  | refine Or.inr ⟨_, rfl, ?_⟩
  | fail "rd"))
local macro_rules | `(tactic| walk_at "rd") => `(tactic| repeat' walk_at "rd1")
def tri (r : Use) : Str × List Str × Str := (r.z, r.ks, r.u)
def sD (ks : List Str) : PyData := .list (ks.map PyData.str)
/-- these contents are what was told -/
structure CtIs (d : Td) (c : Ct) : Prop where
  zs : c.us.map (·.z) = srtW (d.rows.map (·.z))
  us : ∀ r ∈ c.us, ∃ q ∈ d.rows, q.z = r.z ∧ q.u = r.u ∧ r.ks = srtW q.ks
  vo : c.vo = srtW d.vo
  ne : c.ne = d.le
  si : c.si = srtW (sgT d)
theorem WdL.keys {ks : List Str} {m : Nat} (h : WdL ks m) : keysB (ks.map V.str) m = true := by
  unfold keysB
  have e : (ks.map V.str).map txV = ks := by rw [List.map_map]; exact (List.map_congr_left fun _ _ => rfl).trans (List.map_id ks)
  have l := h.le
  have o : (onceW ks).length = ks.length := (once_perm h.nd).length_eq
  rw [e, List.length_map, o]
  have w : (ks.map V.str).all flagV = true := List.all_eq_true.mpr fun x hx => by
    obtain ⟨z, hz, rfl⟩ := List.mem_map.mp hx
    exact (h.wd z hz).ok.2
  rw [w, decide_eq_true rfl, decide_eq_false (by omega)]; rfl
theorem seqO_is {K : PySem.W.Frag} {H : Hp} {a : Addr} {b : Bool} {ks : List Str} (h : H a = some (seqO b ks)) : SqE K b H a (ks.map V.str) := by
  cases b with
  | true => exact SqL.of h
  | false => exact SqT.of h
theorem seqO_ty {K : PySem.W.Frag} {H : Hp} {a : Addr} {b : Bool} {ks : List Str} (h : H a = some (seqO b ks)) : TyX K H (.ref a) (.type (if b then "list" else "tuple")) := by
  cases b with
  | true => exact .base (.lst h)
  | false => exact .base (.tup h)
theorem kl_of {K : PySem.W.Frag} {H : Hp} {a : Addr} {b : Bool} {ks : List Str} {m : Nat} (h : H a = some (seqO b ks)) (w : WdL ks m) (hm : m ≤ 500) : KLOk K H ⟨a, b, ks⟩ :=
  ⟨seqO_is h, fun H' s => seqO_ty (s _ _ h), Nat.le_trans w.le hm, fun k hk => (w.wd k hk).ok.1⟩
theorem val_no : ∀ (kvs : List (Key × V)) {k : Key}, k ∉ kvs.map (·.1) → valV kvs k = none
  | [], _, _ => rfl
  | p :: r, k, h => by
    rw [List.map_cons, List.mem_cons, not_or] at h
    rw [valV_neg (fun q => h.1 q.symm)]
    exact val_no r h.2
theorem mergeK_id : ∀ (kvs acc : List (Key × V)), ((acc ++ kvs).map (·.1)).Nodup → mergeK acc kvs = acc ++ kvs
  | [], acc, _ => (List.append_nil _).symm
  | p :: r, acc, h => by
    have n : p.1 ∉ acc.map (·.1) := by
      rw [List.map_append, List.map_cons, List.nodup_append] at h
      exact fun q => h.2.2 _ q _ (List.mem_cons_self ..) rfl
    have z : putK acc p.1 p.2 = acc ++ [(p.1, p.2)] := putK_new _ (val_no acc n)
    show mergeK (putK acc p.1 p.2) r = _
    rw [z, mergeK_id r (acc ++ [(p.1, p.2)]) (by rw [List.append_assoc]; exact h), List.append_assoc]; rfl
def cpG (p : Addr × Row) : Str × List Str × Str := (p.2.z, p.2.ks, p.2.u)
theorem CpAt.up {H : Hp} {D p : Addr} {b : Bool} {r : Row} {o : HO} (h : CpAt H D p b r) : CpAt (upd H D o) D p b r :=
  ⟨by rw [upd_ne h.np]; exact h.pr, by rw [upd_ne h.nt]; exact h.tp, by rw [upd_ne h.na]; exact h.sq, h.b_, h.np, h.nt, h.na⟩
/-- what a copied row is, new from here -/
theorem cp_new {H' H4 : Hp} {D t p a : Addr} {b : Bool} {z u : Str} {ks : List Str} {oD : HO} (eD : H' D = some oD) (na : a ≠ D) (s2 : Same H' H4) (ea : H4 a = some (seqO b ks)) (nt : H4 t = none) (np : upd H4 t (.tup [.ref a, .str u]) p = none) :
    Same H' (upd (upd H4 t (.tup [.ref a, .str u])) p (.tup [.str z, .ref t])) ∧ CpAt (upd (upd H4 t (.tup [.ref a, .str u])) p (.tup [.str z, .ref t])) D p b ⟨z, t, a, b, ks, u⟩ := by
  have st := same_new (o := .tup [.ref a, .str u]) nt
  have sp_ := same_new (o := .tup [.str z, .ref t]) np
  exact ⟨(s2.trans st).trans sp_, upd_same, sp_ _ _ upd_same, sp_ _ _ (st _ _ ea), rfl, (ne_of_none (st _ _ (s2 _ _ eD)) np).symm, (ne_of_none (s2 _ _ eD) nt).symm, na⟩
/-- these rows are those that were told -/
structure RowsOf (d : Td) (rows : List Row) : Prop where
  pm : (rows.map (·.z)).Perm (d.rows.map (·.z))
  ex : ∀ r ∈ rows, ∃ q ∈ d.rows, q.z = r.z ∧ q.u = r.u ∧ r.ks.Perm q.ks
def SgIs (H : Hp) (sv : V) (o : Option (List Str)) (so : Option KL) : Prop := (sv = .non ∧ o = none ∧ so = none) ∨ ∃ l ks, sv = .ref l.a ∧ so = some l ∧ o = some ks ∧ H l.a = some (seqO l.b l.ks) ∧ l.ks.Perm ks
theorem WdL.perm {ks ls : List Str} {m : Nat} (h : WdL ks m) (p : ls.Perm ks) : WdL ls m := ⟨p.nodup_iff.mpr h.nd, by rw [p.length_eq]; exact h.le, fun k hk => h.wd k (p.mem_iff.mp hk)⟩
theorem right_of {K : PySem.W.Frag} {H : Hp} {dp : Addr} {rows : List Row} {lv : KL} {sv : V} {so : Option KL} {d : Td} (ok : TdR d) (ro : RowsOf d rows) (hd : H dp = some (.dK (dictOf rows))) (hrow : ∀ r ∈ rows, H r.t = some (.tup [.ref r.a, .str r.u]) ∧ H r.a = some (seqO r.b r.ks))
    (hl : H lv.a = some (seqO lv.b lv.ks)) (pl : lv.ks.Perm d.vo) (hs : SgIs H sv d.sg so) : Right K H (.ref dp) (.ref lv.a) (.int d.le) sv rows lv d.le so := by
  have len := ro.pm.length_eq
  rw [List.length_map, List.length_map] at len
  have wd : ∀ r ∈ rows, Wd r.z ∧ Wd r.u ∧ WdL r.ks 8 := fun r hr => by
    obtain ⟨q, hq, e1, e2, e3⟩ := ro.ex r hr
    obtain ⟨w1, w2, w3⟩ := ok.rw_ q hq
    exact ⟨e1 ▸ w1, e2 ▸ w2, w3.perm e3⟩
  refine ⟨⟨dp, rfl, hd, fun r hr => ?_⟩, by rw [len]; exact ok.n1, by rw [len]; exact ok.n3, ro.pm.nodup_iff.mpr ok.nd, List.all_eq_true.mpr fun r hr => ?_, ⟨rfl, kl_of hl (ok.vo.perm pl) (by decide), (ok.vo.perm pl).keys⟩, ⟨rfl, ok.le⟩, ?_⟩
  · obtain ⟨h1, h2⟩ := hrow r hr
    obtain ⟨w1, w2, w3⟩ := wd r hr
    have na : r.a ≠ dp := fun e => by rw [e, hd] at h2; cases hb : r.b <;> rw [hb] at h2 <;> cases h2
    refine ⟨h1, (fun e => by rw [e, hd] at h1; cases h1), na, seqO_is h2, fun H' s => seqO_ty (s _ _ h2 na), Nat.le_trans w3.le (by decide), fun k hk => (w3.wd k hk).ok.1, w1.ok.1, w2.ok.1⟩
  · obtain ⟨w1, w2, w3⟩ := wd r hr
    unfold rowB
    have k8 : keysB (r.ks.map V.str) 8 = true := w3.keys
    rw [w1.ok.2, w2.ok.2, k8]; rfl
  · rcases hs with ⟨rfl, _, rfl⟩ | ⟨l, ks, rfl, rfl, e, h, p⟩
    · exact .inl ⟨rfl, rfl⟩
    · exact .inr ⟨l, rfl, rfl, kl_of h ((ok.sg ks e).perm p) (by decide), ((ok.sg ks e).perm p).keys⟩
theorem ctis_of {H : Hp} {rows : List Row} {lv : KL} {sv : V} {so : Option KL} {d : Td} {c : Ct} (ro : RowsOf d rows) (pl : lv.ks.Perm d.vo) (hs : SgIs H sv d.sg so) (m : Made rows lv.ks d.le (sgOf lv so) c) : CtIs d c := by
  refine ⟨m.zs.trans (srtW_congr ro.pm), fun r hr => ?_, m.vo.trans (srtW_congr pl), m.ne, m.si.trans (srtW_congr ?_)⟩
  · obtain ⟨r2, h2, e1, e2, e3⟩ := m.us r hr
    obtain ⟨q, hq, f1, f2, f3⟩ := ro.ex r2 h2
    exact ⟨q, hq, f1.trans e1, f2.trans e2, e3.trans (srtW_congr f3)⟩
  · unfold sgOf sgT
    rcases hs with ⟨rfl, e, rfl⟩ | ⟨l, ks, rfl, rfl, e, h, p⟩
    · rw [e]; exact pl
    · rw [e]; exact p
theorem nodup_inr : ∀ {l : List Str}, l.Nodup → (l.map (Sum.inr : Str → Key)).Nodup
  | [], _ => List.nodup_nil
  | x :: r, h => by
    rw [List.nodup_cons] at h
    rw [List.map_cons, List.nodup_cons]
    refine ⟨fun q => ?_, nodup_inr h.2⟩
    obtain ⟨y, hy, e⟩ := List.mem_map.mp q
    exact h.1 (Sum.inr.inj e ▸ hy)
def cpKv (ps : List (Addr × Row)) : List (Key × V) := ps.map fun p => (Sum.inr p.2.z, V.ref p.2.t)
theorem paired_cp {K : PySem.W.Frag} {H : Hp} {D : Addr} {b : Bool} : ∀ {ps : List (Addr × Row)}, (∀ p ∈ ps, CpAt H D p.1 b p.2) → Paired (fun (p : Addr) (kv : Key × V) => SqT K H p [kV kv.1, kv.2]) (ps.map (·.1)) (cpKv ps)
  | [], _ => .nil
  | p :: r, h => .cons (SqT.of (h p (List.mem_cons_self ..)).pr) (paired_cp fun q hq => h q (List.mem_cons_of_mem _ hq))
theorem cp_merge {ps : List (Addr × Row)} (nd : (ps.map (·.2.z)).Nodup) : mergeK [] (cpKv ps) = dictOf (ps.map (·.2)) := by
  have e : ((([] : List (Key × V)) ++ cpKv ps).map (·.1)) = (ps.map (·.2.z)).map Sum.inr := by
    unfold cpKv
    rw [List.nil_append, List.map_map, List.map_map]; rfl
  rw [mergeK_id (cpKv ps) [] (by rw [e]; exact nodup_inr nd), List.nil_append]
  unfold cpKv dictOf
  rw [List.map_map]; rfl
theorem sg_is {H H' : Hp} {sv : V} {o : Option (List Str)} (h : SgAt H sv o) (s : Same H H') : ∃ so, SgIs H' sv o so := by
  cases o with
  | none => exact ⟨none, .inl ⟨h, rfl, rfl⟩⟩
  | some ks =>
    obtain ⟨l, e, h⟩ := h
    exact ⟨some ⟨l, true, ks⟩, .inr ⟨_, ks, e, rfl, rfl, s _ _ h, .refl _⟩⟩
def spCon (C : Addr) : Sp := fun vs H Q _ => ∃ q d, vs = [.ref q] ∧ TdAt H q d ∧ TdR d ∧ ∀ z c H', CAt (fun q => H q = none) C H' z c → CtOk c → CtIs d c → Same H H' → Q (.ref z) H'
section
variable {P : Program} {w : World} {K : PySem.W.Frag} {mg : Str → Option Value} {base : Heap} {C CI : Addr}
theorem sc_law_contents : FnScope ["told", "rows", "vouch", "least", "signing", "part", "likes", "own"] ["told"] (defScope s_law_contents) := ⟨rfl, rfl, rfl, by decide +kernel, rfl, by decide +kernel, by decide +kernel⟩
theorem ok_con (D : DefK K mg "_law_contents" s_law_contents) (T : Txt K mg) (J : CTx K mg C) (M_Contents : MakN P w K mg base (L2.CX P w) 7 "Contents" C 2 ["needed", "signers"] (fun vs zs => vs ++ zs) (spCInit P w K C CI)) : Cal P w K mg base CX0 9 "_law_contents" (spCon C) := by
  refine D.cal sc_law_contents (fun _ _ _ _ _ _ us hl => match us, hl with | [_], _ => rfl) (fun vs H Q E h => ?_) fun f0 cdv A outer s H vs Q E hr h => ?_
  · obtain ⟨q, d, rfl, _⟩ := h; rfl
  · obtain ⟨q, d, rfl, td, ok, k⟩ := h
    refine ⟨_, (pss_cons (ps_asg (pv 0) (pg_tup rfl (pgs_cons (pg_name (i := 1) sc_law_contents.nd rfl (Or.inl rfl)) (pgs_cons (pg_name (i := 2) sc_law_contents.nd rfl (Or.inl rfl)) (pgs_cons (pg_name (i := 3) sc_law_contents.nd rfl (Or.inl rfl)) (pgs_cons (pg_name (i := 4) sc_law_contents.nd rfl (Or.inl rfl)) pgs_nil))))))
      (pss_one (ps_ret (pe_mkNS M_Contents takes0 hr (by decide) rfl (pa_cons (pe_callTy (call_dictP rfl) (by rfl) T.b_dict (by decide +kernel) (pa_cons (pe_lc (own := [("part", 5), ("likes", 6), ("own", 7)]) (g := gTup K 3 (gCons (gName 5) (gCons (gName 6) (gCons (gName 7) gNil)))) (by rfl) sc_law_contents.nd (pi_list (pv 1)) (blkOk_by (own := [("part", 5), ("likes", 6), ("own", 7)]) (N := ["told", "rows", "vouch", "least", "signing", "part", "likes", "own"]) (sc := defScope s_law_contents) (by decide +kernel)) (fun _ _ _ _ _ => pg_tup rfl (pgs_cons (pg_name (i := 5) sc_law_contents.nd rfl (Or.inl rfl)) (pgs_cons (pg_name (i := 6) sc_law_contents.nd rfl (Or.inl rfl)) (pgs_cons (pg_name (i := 7) sc_law_contents.nd rfl (Or.inl rfl)) pgs_nil)))) (fun _ _ _ _ _ => pts_nil) (fun _ _ _ _ _ => (pe_tup (pa_cons (pv 5) (pa_cons (pe_tup (pa_cons (pv 6) (pa_cons (pv 7) pa_nil))) pa_nil))))) pa_nil)) (pa_cons (pv 2) pa_nil)) (pk_cons (pv 3) (pk_cons (pv 4) pk_nil)))))), ?_⟩
    obtain ⟨⟨lr, lv, sv, e1, e2, e3, e4⟩, rs⟩ := id td
    refine ⟨_, rfl, q, _, rfl, SqT.of e1, rfl, _, _, rfl, _, _, rfl, _, _, rfl, _, _, rfl, rfl, ?_⟩
    refine ⟨_, rfl, lr, rfl, ⟨_, SqL.of e2⟩, fun D nD => ?_⟩
    have few := ok.n3
    refine lc_list (K := K) (a := lr) (xs := (d.rows.map (·.t)).map V.ref) (fun i H' => ∃ ps : List (Addr × Row), H' D = some (.lst ((ps.map (·.1)).map V.ref)) ∧ ps.map cpG = (d.rows.take i).map tri ∧ (∀ p ∈ ps, CpAt H' D p.1 true p.2) ∧ Same H H') ⟨[], upd_same, rfl, (fun _ h => nomatch h), same_new nD⟩ (fun i H' _ ⟨_, _, _, _, s⟩ => SqL.of (s _ _ e2)) ?_ ?_
    · rintro i x H' hx ⟨ps, eD, eP, cP, sP⟩
      obtain ⟨r, er, rfl⟩ : ∃ r, d.rows[i]? = some r ∧ x = .ref r.t := by
        rw [List.getElem?_map, List.getElem?_map] at hx
        cases c : d.rows[i]? with
        | none => rw [c] at hx; cases hx
        | some r => rw [c] at hx; exact ⟨r, rfl, (Option.some.inj hx).symm⟩
      have R := rs r (List.mem_of_getElem? er)
      have tk : d.rows.take (i + 1) = d.rows.take i ++ [r] := by rw [List.take_succ, er]; rfl
      refine ⟨r.t, _, rfl, SqT.of (sP _ _ R.tp), rfl, _, _, rfl, _, _, rfl, _, _, rfl, rfl, rfl, yes_if ?_⟩
      refine ⟨_, rfl, _, rfl, _, rfl, by show 2 ≤ sizeLine; decide, fun t nt => ⟨by show 2 ≤ sizeLine; decide, fun p np => ?_⟩⟩
      obtain ⟨n1, n2⟩ := cp_new eD (ne_of_none R.ls nD) (.refl H') (show H' r.a = some (seqO true r.ks) from sP _ _ R.ls) nt np
      generalize upd (upd H' t (.tup [.ref r.a, .str r.u])) p (.tup [.str r.z, .ref t]) = H4 at *
      have pl : ps.length = i := by
        have z1 := congrArg List.length eP
        have lt : i < d.rows.length := (List.getElem?_eq_some_iff.mp er).1
        rw [List.length_map, List.length_map, List.length_take] at z1
        omega
      have lt : i < d.rows.length := (List.getElem?_eq_some_iff.mp er).1
      refine ⟨_, n1 _ _ eD, by rw [List.length_map, List.length_map, pl, sizeLine_eq]; omega, ps ++ [(p, ⟨r.z, t, r.a, true, r.ks, r.u⟩)], by rw [upd_same, List.map_append, List.map_append]; rfl, by rw [List.map_append, eP, tk, List.map_append]; rfl, fun q hq => ?_, fun q o e => by rw [upd_ne (ne_of_none e nD)]; exact n1 _ _ (sP _ _ e)⟩
      rcases List.mem_append.mp hq with hq | hq
      · exact ((cP q hq).keep n1).up
      · obtain rfl := List.mem_singleton.mp hq
        exact n2.up
    · rintro H' ⟨ps, eD, eP, cP, sP⟩
      rw [show ((d.rows.map (·.t)).map V.ref).length = d.rows.length by rw [List.length_map, List.length_map], List.take_length] at eP
      have zs : (ps.map (·.2)).map (·.z) = d.rows.map (·.z) := by
        have z1 := congrArg (List.map (·.1)) eP
        rw [List.map_map, List.map_map] at z1
        rw [List.map_map]; exact z1
      have nd : (ps.map (·.2.z)).Nodup := by
        have z2 : ps.map (·.2.z) = d.rows.map (·.z) := by rw [← zs, List.map_map]; rfl
        rw [z2]; exact ok.nd
      refine ⟨D, ps.map (·.1), cpKv ps, rfl, SqL.of eD, paired_cp cP, fun dd ndd => ?_⟩
      rw [cp_merge nd]
      have g1 := same_new (o := .dK (dictOf (ps.map (·.2)))) ndd
      have ed : upd H' dd (.dK (dictOf (ps.map (·.2)))) dd = some (.dK (dictOf (ps.map (·.2)))) := upd_same
      have sF := sP.trans g1
      have cF := fun p hp => (cP p hp).keep g1
      generalize upd H' dd (.dK (dictOf (ps.map (·.2)))) = HF at *
      obtain ⟨so, hs⟩ := sg_is e4 sF
      have ro : RowsOf d (ps.map (·.2)) := by
        refine ⟨by rw [zs], fun x hx => ?_⟩
        obtain ⟨pp, hp, rfl⟩ := List.mem_map.mp hx
        have z1 : cpG pp ∈ d.rows.map tri := eP ▸ List.mem_map_of_mem hp
        obtain ⟨q0, hq, e⟩ := List.mem_map.mp z1
        have a1 : q0.z = pp.2.z := congrArg (·.1) e
        have a2 : q0.ks = pp.2.ks := congrArg (·.2.1) e
        have a3 : q0.u = pp.2.u := congrArg (·.2.2) e
        exact ⟨q0, hq, a1, a3, by rw [a2]⟩
      refine ⟨_, rfl, _, rfl, _, rfl, rfl, rfl, fun z dz nz ndz nez => ?_⟩
      have RR := right_of (K := K) (H := HF) (lv := ⟨lv, true, d.vo⟩) ok ro ed (fun x hx => by
        obtain ⟨pp, hp, rfl⟩ := List.mem_map.mp hx
        have C0 := cF pp hp
        exact ⟨C0.tp, by rw [C0.b_]; exact C0.sq⟩) (show HF lv = some (seqO true d.vo) from sF _ _ e3) (List.Perm.refl _) hs
      refine ⟨z, dz, _, _, _, _, HF, rfl, upd_same, same_new' (same_new ndz) (by rw [upd_ne (Ne.symm nez)]; exact nz), nz, .inl ⟨_, _, _, _, RR, fun H2 c ca m ok2 s2 => ⟨rfl, k z c H2 (ca.wider fun q hq => sF.free hq) ok2 (ctis_of ro (List.Perm.refl _) hs m) (sF.trans s2)⟩⟩⟩
end
end K26C
namespace K26C
open PySem PySem.Spec PyProof.Rows L2 Jg
local macro_rules | `(tactic| walk_at "rd1") => `(tactic| (first
  | refine ⟨_, rfl, ?_⟩
  | refine ⟨_, _, rfl, rfl, ?_⟩
  | refine ⟨_, _, rfl, ?_⟩
  | refine ⟨rfl, ?_⟩
  | (refine ⟨show (0 : Int) < _ by omega, ?_⟩)
  | (refine ⟨Or.inl ⟨by omega, by omega⟩, ?_⟩)
  | (refine ⟨Or.inr ⟨by omega, by omega⟩, ?_⟩)
  | (refine ⟨(⟨by decide, by decide, by decide⟩ : CPow _ _), ?_⟩)
  | refine Or.inl ⟨_, rfl, ?_⟩
  | refine Or.inr ⟨_, rfl, ?_⟩
  | fail "rd"))
local macro_rules | `(tactic| walk_at "rd") => `(tactic| repeat' walk_at "rd1")
def vouB (d e : Td) : Bool := decide (d.le ≤ (((sgT e).filter fun k => decide (k ∈ d.vo)).length : Int))
def spVou (K : PySem.W.Frag) : Sp := fun vs H Q _ => ∃ q1 q2 d e, vs = [.ref q1, .ref q2] ∧ TdAt H q1 d ∧ TdAt H q2 e ∧ (sgT e).length ≤ 500 ∧ ∀ H', Same H H' → Q (.bl (vouB d e)) H'
/-- the signers, as they stand -/
theorem sg_list {H : Hp} {lv : Addr} {sv : V} {d : Td} (e3 : H lv = some (.lst (d.vo.map V.str))) (e4 : SgAt H sv d.sg) : (sv = .non ∧ H lv = some (.lst ((sgT d).map V.str))) ∨ ∃ l, sv = .ref l ∧ H l = some (.lst ((sgT d).map V.str)) := by
  unfold sgT
  cases h : d.sg with
  | none => rw [h] at e4; exact .inl ⟨e4, e3⟩
  | some ks =>
    rw [h] at e4
    obtain ⟨l, a, b⟩ := e4
    exact .inr ⟨l, a, b⟩
section
variable {P : Program} {w : World} {K : PySem.W.Frag} {mg : Str → Option Value} {base : Heap}
theorem sc_law_vouched : FnScope ["early", "later", "hands", "key"] ["early", "later"] (defScope s_law_vouched) := ⟨rfl, rfl, rfl, by decide +kernel, rfl, by decide +kernel, by decide +kernel⟩
theorem ok_vou (D : DefK K mg "_law_vouched" s_law_vouched) (T : Txt K mg) : Cal P w K mg base CX0 1 "_law_vouched" (spVou K) := by
  refine D.cal sc_law_vouched (fun _ _ _ _ _ _ us hl => match us, hl with | [_, _], _ => rfl) (fun vs H Q E h => ?_) fun f0 cdv A outer s H vs Q E hr h => ?_
  · obtain ⟨q1, q2, d, e, rfl, _⟩ := h; rfl
  · obtain ⟨q1, q2, d, e, rfl, t1, t2, few, k⟩ := h
    refine ⟨_, (C8.pss_cut (ps_set (i := 2) sc_law_vouched.nd rfl (Or.inl rfl) (pe_ifExp (pt_cmpR op_isN (pe_ix (r := rIxT K) ix_tup (pv 1) pe_int (fun _ _ => rfl)) pe_non (nomark _)) (pe_ix (r := rIxT K) ix_tup (pv 1) pe_int (fun _ _ => rfl)) (pe_ix (r := rIxT K) ix_tup (pv 1) pe_int (fun _ _ => rfl))))
      (pss_one (ps_ret (pe_cmpR op_ge (pe_callB call_len_seq (by rfl) T.b_len (by decide +kernel) (pa_cons (pe_lc (own := [("key", 3)]) (g := gName 3) (by rfl) sc_law_vouched.nd (pi_list (pv 2)) (blkOk_by (own := [("key", 3)]) (N := ["early", "later", "hands", "key"]) (sc := defScope s_law_vouched) (by decide +kernel)) (fun _ _ _ _ _ => pg_name (i := 3) sc_law_vouched.nd rfl (Or.inl rfl)) (fun _ _ _ _ _ => (pts_one (pt_cmpR (r := rIn K false) op_in_seq (pv 3) (pe_ix (r := rIxT K) ix_tup (pv 0) pe_int (fun _ _ => rfl)) rfl))) (fun _ _ _ _ _ => (pv 3))) pa_nil)) (pe_ix (r := rIxT K) ix_tup (pv 0) pe_int (fun _ _ => rfl)) (nomark _))))), ?_⟩
    obtain ⟨⟨lr, lv, sv, e1, e2, e3, e4⟩, rs⟩ := id t1
    obtain ⟨⟨lr', lv', sv', f1, f2, f3, f4⟩, rs'⟩ := id t2
    refine ⟨fun σ' H' => ∃ l, σ' = [some (.ref q1), some (.ref q2), some (.ref l), none] ∧ H' = H ∧ H l = some (.lst ((sgT e).map V.str)), ?_, ?_⟩
    · rcases sg_list f3 f4 with ⟨rfl, el⟩ | ⟨l, rfl, el⟩
      · exact ⟨_, rfl, q2, _, 3, _, rfl, rfl, SqT.of f1, atI_nat (j := 3) rfl, rfl, _, rfl, iteTe (decide_eq_true rfl) ⟨_, rfl, q2, _, 1, _, rfl, rfl, SqT.of f1, atI_nat (j := 1) rfl, lv', rfl, rfl, el⟩⟩
      · exact ⟨_, rfl, q2, _, 3, _, rfl, rfl, SqT.of f1, atI_nat (j := 3) rfl, rfl, _, rfl, iteFe (decide_eq_false (fun z => nomatch z)) ⟨_, rfl, q2, _, 3, _, rfl, rfl, SqT.of f1, atI_nat (j := 3) rfl, l, rfl, rfl, el⟩⟩
    · rintro σ' H' ⟨l, rfl, rfl, el⟩
      refine ⟨_, rfl, l, rfl, ⟨_, SqL.of el⟩, fun D nD => ?_⟩
      have sq : ∀ {a : Addr} {xs : List V} {o : HO}, SqL K H' a xs → SqL K (upd H' D o) a xs := fun h => (same_new nD).seq h
      refine lc_list (K := K) (a := l) (xs := (sgT e).map V.str) (fun i H2 => H2 = upd H' D (.lst ((((sgT e).take i).filter fun k => decide (k ∈ d.vo)).map V.str))) rfl (fun _ H2 _ z => by rw [z]; exact sq (SqL.of el)) ?_ ?_
      · rintro i x H2 hx rfl
        obtain ⟨z, hz, rfl⟩ := str_at hx
        refine ⟨rfl, ?_⟩
        refine ⟨_, rfl, _, rfl, q1, _, 1, _, rfl, rfl, SqT.of (same_new nD _ _ e1), atI_nat (j := 1) rfl, lv, _, rfl, .inl (sq (SqL.of e3)), rfl, flat_strs, _, rfl, ?_⟩
        show if inV (V.str z) (d.vo.map V.str) = true then _ else _
        rw [inV_strs]
        by_cases cc : z ∈ d.vo
        · rw [decide_eq_true cc]
          refine iteT ⟨_, rfl, _, upd_same, fil_few _ few, ?_⟩
          rw [upd_upd, fil_take hz, decide_eq_true cc, List.map_append]; rfl
        · rw [decide_eq_false cc]
          refine iteF ?_
          rw [fil_take hz, decide_eq_false cc]
          show _ = upd H' D (.lst (((((sgT e).take i).filter fun k => decide (k ∈ d.vo)) ++ []).map V.str))
          rw [List.append_nil]
      · intro H2 eH
        rw [List.length_map, List.take_length] at eH
        subst eH
        have q := k _ (same_new (o := .lst (((sgT e).filter fun k => decide (k ∈ d.vo)).map V.str)) nD)
        unfold vouB at q
        rw [← List.length_map (as := (sgT e).filter fun k => decide (k ∈ d.vo)) V.str] at q
        exact ⟨D, _, rfl, .inl (SqL.of upd_same), _, rfl, q1, _, 2, _, rfl, rfl, SqT.of (same_new nD _ _ e1), atI_nat (j := 2) rfl, _, _, rfl, rfl, q⟩
end
end K26C
namespace Jg
open PySem PySem.Spec PyProof.Rows L2
/-- o[i] = v by an own __setitem__ -/
def gSubO (C : Addr) (sp : Sp) (E : L2.St → XK) (to ti : TE) : TG := fun v σ H Q => to σ H fun o H1 => ti σ H1 fun i H2 => ∃ a dx fs, o = .ref a ∧ H2 a = some (.ins C dx fs) ∧ sp [.ref a, i, v] H2 (fun w H3 => w = .non ∧ Q σ H3) (E σ)
section
variable {X : Cx} {W : WX} {k j : Nat} {C : Addr} {sp : Sp} {o i e : Expr} {to ti ta tb : TE} {pos : Pos}
theorem pg_subO (c : Met X.prog X.w X.K X.mg X.base (L2.CX X.prog X.w) k C "__setitem__" sp) (ns : PySem.W.noSeq X.K C = true) (tk : Takes X W) (hr : Room j X.A) (hk : k ≤ j) (ho : PE X o to) (hi : PE X i ti)
    (ha : ∀ v, assign (.Subscript o i pos) X.env v = (do
      let ov ← holding [v] (eval o X.env)
      let iv ← holding [v, ov] (eval i X.env)
      standAt pos
      holding [v, ov, iv] (setItem ov iv v)
      release [v, ov, iv] []) := by intro _; rfl) : PG X (.Subscript o i pos) (gSubO C sp (WE W) to ti) := by
  obtain ⟨f, fd, ps, F, at_, fn, kp, b⟩ := c.ex
  refine ⟨fun pins s σ H v u Q I r h => ?_⟩
  rw [ha]
  refine wpAny_bind (wpAny_holding (thn (ho.run pins s σ H _ I h) fun ov s1 ⟨x, H1, I1, r1, q1⟩ => ?_))
  refine wpAny_bind (wpAny_holding (thn (hi.run pins s1 σ H1 _ I1 q1) fun iv s2 ⟨y, H2, I2, r2, a, dx, fs, ex, ea, q2⟩ => ?_))
  subst ex
  obtain rfl : ov = Value.ref a := r1
  obtain ⟨mA, J0, _⟩ := ins_get I2.hok ea
  obtain ⟨od, J, _⟩ := J0.look
  obtain ⟨m, hF⟩ := I2.fr
  refine wpAny_bind (wpAny_standAt (wpAny_bind (wpAny_holding (PySem.W.ksp_setItem hF I2.ok.mod.kin J ns at_ fn ?_))))
  refine wpAny_mono (run_fnS (E := WE W) (us := [.ref a, iv, u]) (vs := [.ref a, y, v]) F (hr.mono hk) b (passAt tk σ) I2 (.cons rfl (.cons r2 (.cons r .nil))) q2) (fun w s3 ⟨x3, H3, I3, r3, e3, q3⟩ => ?_) fun _ _ z => z
  exact wpAny_release ⟨σ, H3, I3, q3⟩
/-- o[i] by an own __getitem__ -/
def rIxO (C : Addr) (sp : Sp) (E : XK) : R2 := fun x y H Q => ∃ a dx fs, x = .ref a ∧ H a = some (.ins C dx fs) ∧ sp [.ref a, y] H Q E
def OwnIx (b : Expr) : Prop := ∀ o i, subscripted b true o i = runValue (.builtin "lifetime.subscript" ⟨[o, i], []⟩)
theorem pe_ixO (c : Met X.prog X.w X.K X.mg X.base (L2.CX X.prog X.w) k C "__getitem__" sp) (fi : ∀ f, PySem.W.findIn X.K (.ref C) "__getitem__" = some (some (.ref f)) → PySem.W.fnIn X.K f = true) (tk : Takes X W) (hr : Room j X.A) (hk : k + 1 ≤ j) (ha : PE X o ta) (hb : PE X e tb) (hs : OwnIx e) :
    PE X (.Subscript o e pos) (tOpS (fun σ => rIxO C sp (WE W σ)) ta tb) := by
  obtain ⟨f, fd, ps, F, at_, fn, kp, b⟩ := c.ex
  refine ⟨fun pins s σ H Q I h => ?_⟩
  refine Subscript_ (binT (R := fun x y H2 => rIxO C sp (WE W σ) x y H2 Q) ha hb I h fun v u s2 x y H2 I2 rx ry q => ?_)
  obtain ⟨a, dx, fs, rfl, ea, q⟩ := q
  cases rx
  obtain ⟨mA, J0, _⟩ := ins_get I2.hok ea
  obtain ⟨od, J, _⟩ := J0.look
  obtain ⟨m, hF⟩ := I2.fr
  have rv : Vals [V.ref a, y] [Value.ref a, u] := .cons rfl (.cons ry .nil)
  have ln : [Value.ref a, u].length = ps.length := rv.length.symm.trans (F.len _ _ _ _ q)
  have bd := b s2 [Value.ref a, u] I2.kIn (by rw [List.append_nil]; exact ln)
  rw [List.append_nil] at bd
  have rm : Room (k + 1) X.A := hr.mono hk
  have run := F.run X.A.in1 X.stack s2 H2 ⟨[Value.ref a, u], []⟩ _ _ _ (WE W σ) rm.in1 I2.env0.in1 bd rv q
  refine PySem.W.sub_K hF I2.ok.mod.kin J at_ (fi f at_) fn (wpAny_call (codeAny_mono run fun o s3 z => ?_)) (hs _ _)
  match o, z with
  | .error err, z => exact passAt tk σ pins _ _ err s3 I2 z
  | .ok (.ret w), z => exact I2.after z
/-- len(o) by an own __len__ that raises nothing -/
def rLenO (C : Addr) (sp : Sp) (E : XK) : List V → Hp → VK → Prop := fun xs H Q => ∃ a dx fs, xs = [.ref a] ∧ H a = some (.ins C dx fs) ∧ sp [.ref a] H (fun v H' => ∃ n : Int, v = .int n ∧ 0 ≤ n ∧ n < 2 ^ 63 ∧ Q (.int n) H') E
theorem call_lenO (c : Met X.prog X.w X.K X.mg X.base CX0 k C "__len__" sp) (hr : Room j X.A) (hk : k + 1 ≤ j) : CallR X (.builtin "len") (rLenO C sp E0) := by
  intro pins s σ H xs us Q I r h
  obtain ⟨a, dx, fs, rfl, ea, q⟩ := h
  obtain rfl := Vals.ref1 r
  obtain ⟨f, fd, ps, F, ini, fn, kp, b⟩ := c.ex
  obtain ⟨mA, J, _⟩ := ins_get I.hok ea
  obtain ⟨od, J, _⟩ := J.look
  obtain ⟨m, hF⟩ := I.fr
  have rv : Vals [V.ref a] [Value.ref a] := .cons rfl .nil
  have ln : [Value.ref a].length = ps.length := rv.length.symm.trans (F.len _ _ _ _ q)
  have bd := b s [Value.ref a] I.kIn (by rw [List.append_nil]; exact ln)
  rw [List.append_nil] at bd
  have rm : Room (k + 1) X.A := hr.mono hk
  have run := F.run X.A.in1 X.stack s H ⟨[Value.ref a], []⟩ _ _ _ E0 rm.in1 I.env0.in1 bd rv q
  refine PySem.W.len_K hF I.ok.mod.kin J ini fn (wpAny_call (codeAny_mono run fun o s2 z => ?_))
  match o, z with
  | .error err, z => exact z.elim
  | .ok (.ret u), z =>
    obtain ⟨v, H2, J3, rv3, n, rfl, h0, h1, q3⟩ := I.after z
    obtain ⟨t, rfl⟩ := (show ∃ t, u = Value.int n t from rv3)
    exact ⟨⟨h0, h1⟩, .int n, H2, J3.tok _, ⟨_, rfl⟩, q3⟩
end
end Jg
namespace Jg
open PySem PySem.Spec PyProof.Rows L2 PySem.W
end Jg
namespace Jg
open PySem PySem.Spec PyProof.Rows L2
section
variable {X : Cx}
/-- dict(d): a copy, of a dict that may be under a walk -/
def rCopyD : List V → Hp → VK → Prop := fun xs H Q => ∃ (a : Addr) (kvs : List (Key × V)), xs = [.ref a] ∧ Rd H a (.dK kvs) ∧ ∀ p, H p = none → Q (.ref p) (upd H p (.dK kvs))
theorem cr_copyD : CallR X (.type "dict") rCopyD := by
  intro pins s σ H xs us Q I r h
  obtain ⟨a, kvs, rfl, e, q⟩ := h
  obtain rfl := Vals.ref1 r
  exact d_copyOf I e fun p s' np I' => ⟨.ref p, _, I', rfl, q p np⟩
end
end Jg
namespace K26F
open PySem PySem.Spec PyProof.Rows L2 Jg
local macro_rules | `(tactic| walk_at "rd1") => `(tactic| (first
  | refine ⟨_, rfl, ?_⟩
  | refine ⟨_, _, rfl, rfl, ?_⟩
  | refine ⟨_, _, rfl, ?_⟩
  | refine ⟨rfl, ?_⟩
  | (refine ⟨show (0 : Int) < _ by omega, ?_⟩)
  | (refine ⟨Or.inl ⟨by omega, by omega⟩, ?_⟩)
  | (refine ⟨Or.inr ⟨by omega, by omega⟩, ?_⟩)
  | (refine ⟨(⟨by decide, by decide, by decide⟩ : CPow _ _), ?_⟩)
  | refine Or.inl ⟨_, rfl, ?_⟩
  | refine Or.inr ⟨_, rfl, ?_⟩
  | fail "rd"))
local macro_rules | `(tactic| walk_at "rd") => `(tactic| repeat' walk_at "rd1")
theorem kga : ¬ (("_gap" : Str) = "_age") := by decide +kernel
theorem kgs : ¬ (("_gap" : Str) = "_source") := by decide +kernel
theorem kas : ¬ (("_age" : Str) = "_source") := by decide +kernel
theorem put_a (u v : V) : putF "_age" v [(("_gap" : Str), u)] = [(("_gap" : Str), u), ("_age", v)] := by
  show (if ("_gap" : Str) = "_age" then _ else _) = _
  rw [if_neg kga]; rfl
theorem put_s (u v s : V) : putF "_source" s [(("_gap" : Str), u), ("_age", v)] = kf u v s := by
  show (if ("_gap" : Str) = "_source" then _ else _ :: (if ("_age" : Str) = "_source" then _ else _)) = _
  rw [if_neg kgs, if_neg kas]; rfl
theorem get_g (u v s : V) : (kf u v s).lookup ("_gap" : Str) = some u := by
  have e : ((("_gap" : Str)) == ("_gap" : Str)) = true := by decide +kernel
  simp only [kf, List.lookup, e]
theorem get_a (u v s : V) : (kf u v s).lookup ("_age" : Str) = some v := by
  have e1 : ((("_age" : Str)) == ("_gap" : Str)) = false := by decide +kernel
  have e2 : ((("_age" : Str)) == ("_age" : Str)) = true := by decide +kernel
  simp only [kf, List.lookup, e1, e2]
theorem get_s (u v s : V) : (kf u v s).lookup ("_source" : Str) = some s := by
  have e1 : ((("_source" : Str)) == ("_gap" : Str)) = false := by decide +kernel
  have e2 : ((("_source" : Str)) == ("_age" : Str)) = false := by decide +kernel
  have e3 : ((("_source" : Str)) == ("_source" : Str)) = true := by decide +kernel
  simp only [kf, List.lookup, e1, e2, e3]
section
variable {K : PySem.W.Frag} {mg : Str → Option Value} {C : Addr}
end
theorem same_new {H : Hp} {p : Addr} {o : HO} (h : H p = none) : Same H (upd H p o) := fun b u e => by rw [upd_ne (ne_of_none e h)]; exact e
theorem same_new' {H H1 : Hp} {p : Addr} {o : HO} (s : Same H H1) (h : H1 p = none) : Same H (upd H1 p o) := s.trans (same_new h)
theorem same_mut {H H1 : Hp} {p : Addr} {o : HO} (s : Same H H1) (h : H p = none) : Same H (upd H1 p o) := fun b u e => by rw [upd_ne (ne_of_none e h)]; exact s b u e
theorem kii {K : PySem.W.Frag} : kit K (.type "int") "int" true := kit_ty (by decide +kernel)
theorem kib {K : PySem.W.Frag} : kit K (.type "int") "bool" false := kit_ty (by decide +kernel)
def gG (y : V) : Prop := ∃ g : Int, y = .int g ∧ 1 ≤ g ∧ g ≤ L
def gA (y : V) : Prop := ∃ a, y = oV a ∧ aOk a
def gS (y : V) : Prop := ∃ s, y = sV s ∧ sOk s
def bG (K : PySem.W.Frag) (H : Hp) (y : V) : Prop := BadR K H 1 L y
def bA (K : PySem.W.Frag) (H : Hp) (y : V) : Prop := y ≠ .non ∧ BadR K H 0 L y
def bS (K : PySem.W.Frag) (H : Hp) (y : V) : Prop := y ≠ .non ∧ BadW K H y
def spIsInt (K : PySem.W.Frag) : Sp := fun vs H Q _ => ∃ x t b1 b2, vs = [x] ∧ TyX K H x t ∧ kit K t "int" b1 ∧ (b1 = true → kit K t "bool" b2) ∧ Q (.bl (b1 && !b2)) H
def spBtwn (K : PySem.W.Frag) : Sp := fun vs H Q _ => ∃ y lo hi, vs = [y, .int lo, .int hi] ∧ ((∃ i, y = .int i ∧ Q (.bl (decide (lo ≤ i) && decide (i ≤ hi))) H) ∨ (NoInt K H y ∧ Q (.bl false) H))
def spWord (K : PySem.W.Frag) : Sp := fun vs H Q _ => ∃ y, vs = [y] ∧ ((∃ z, y = .str z ∧ z.length ≤ sizeLine ∧ Q (.bl (wordB z)) H) ∨ (∃ t, TyX K H y t ∧ kit K t "str" false ∧ Q (.bl false) H))
def spChk (good : V → Prop) (bad : Hp → V → Prop) (CI : Addr) : Sp := fun vs H Q E => ∃ y, vs = [y] ∧ ((good y ∧ Q y H) ∨ (bad H y ∧ ∀ d, H d = none → E (.ref CI) (some d) (upd H d (.xd [(("value" : Str), y)]))))
section
variable {P : Program} {w : World} {K : PySem.W.Frag} {mg : Str → Option Value} {base : Heap} {C : Addr}
theorem sc_is_integer : FnScope ["value"] ["value"] (defScope s_is_integer) := ⟨rfl, rfl, rfl, by decide +kernel, rfl, by decide +kernel, by decide +kernel⟩
theorem ok_is_integer (D : DefK K mg "is_integer" s_is_integer) (T : Txt K mg C) : Cal P w K mg base CX0 1 "is_integer" (spIsInt K) := by
  refine D.cal sc_is_integer (fun _ _ _ _ _ _ us hl => match us, hl with | [_], _ => rfl) (fun vs H Q E h => ?_) fun f cdv A outer s H vs Q E hr h => ?_
  · obtain ⟨x, t, b1, b2, rfl, _⟩ := h; rfl
  · obtain ⟨x, t, b1, b2, rfl, ty, k1, k2, q⟩ := h
    refine ⟨_, (pss_one (ps_ret (pe_and (pe_callB call_isi (by rfl) T.b_isinstance (by decide +kernel) (pa_cons (pv 0) (pa_cons (pe_ty (n := "int") (by rfl) T.b_int (by decide +kernel)) pa_nil))) (pe_one (pe_not (pe_callB call_isi (by rfl) T.b_isinstance (by decide +kernel) (pa_cons (pv 0) (pa_cons (pe_ty (n := "bool") (by rfl) T.b_bool (by decide +kernel)) pa_nil)))))))), ?_⟩
    refine ⟨_, rfl, x, .ty "int", t, _, b1, rfl, .ty "int", ty, k1, b1, rfl, ?_⟩
    cases b1 with
    | false => exact iteF q
    | true => exact iteT ⟨_, rfl, x, .ty "bool", t, _, b2, rfl, .ty "bool", ty, k2 rfl, b2, rfl, q⟩
theorem sc_is_between : FnScope ["value", "least", "most"] ["value", "least", "most"] (defScope s_is_between) := ⟨rfl, rfl, rfl, by decide +kernel, rfl, by decide +kernel, by decide +kernel⟩
theorem ok_is_between (D : DefK K mg "is_between" s_is_between) (T : Txt K mg C) (G_is_integer : Cal P w K mg base CX0 1 "is_integer" (spIsInt K)) : Cal P w K mg base CX0 2 "is_between" (spBtwn K) := by
  refine D.cal sc_is_between (fun _ _ _ _ _ _ us hl => match us, hl with | [_, _, _], _ => rfl) (fun vs H Q E h => ?_) fun f cdv A outer s H vs Q E hr h => ?_
  · obtain ⟨y, lo, hi, rfl, _⟩ := h; rfl
  · obtain ⟨y, lo, hi, rfl, h⟩ := h
    refine ⟨_, (pss_one (ps_ret (pe_and (pe_c G_is_integer hr (by decide) rfl (pa_cons (pv 0) pa_nil)) (pe_one (pe_chain op_le op_le (pv 1) (pv 0) (pv 2)))))), ?_⟩
    rcases h with ⟨i, rfl, q⟩ | ⟨⟨t, b1, b2, ty, k1, k2, e⟩, q⟩
    · refine ⟨_, rfl, .int i, _, true, false, rfl, .base (.int i), kii, fun _ => kib, true, rfl, iteT ?_⟩
      refine ⟨_, rfl, _, rfl, lo, i, rfl, rfl, _, rfl, ?_⟩
      by_cases c : lo ≤ i
      · rw [decide_eq_true c]
        refine iteT ⟨_, rfl, i, hi, rfl, rfl, ?_⟩
        rw [decide_eq_true c] at q
        exact q
      · rw [decide_eq_false c]
        rw [decide_eq_false c] at q
        exact iteF q
    · refine ⟨_, rfl, y, t, b1, b2, rfl, ty H (.refl H), k1, k2, _, rfl, ?_⟩
      rw [e]
      exact iteF q
theorem sc_is_word : FnScope ["value"] ["value"] (defScope s_is_word) := ⟨rfl, rfl, rfl, by decide +kernel, rfl, by decide +kernel, by decide +kernel⟩
theorem ok_is_word (D : DefK K mg "is_word" s_is_word) (T : Txt K mg C) : Cal P w K mg base CX0 1 "is_word" (spWord K) := by
  refine D.cal sc_is_word (fun _ _ _ _ _ _ us hl => match us, hl with | [_], _ => rfl) (fun vs H Q E h => ?_) fun f cdv A outer s H vs Q E hr h => ?_
  · obtain ⟨y, rfl, _⟩ := h; rfl
  · obtain ⟨y, rfl, h⟩ := h
    refine ⟨_, (pss_cons (ps_if (PW.pt (pw_or (pt_not (pt_val (pe_callB call_isi (by rfl) T.b_isinstance (by decide +kernel) (pa_cons (pv 0) (pa_cons (pe_ty (n := "str") (by rfl) T.b_str (by decide +kernel)) pa_nil))))) (pw_or1 (pt_cmpR op_gt (pe_callB call_len_str (by rfl) T.b_len (by decide +kernel) (pa_cons (pv 0) pa_nil)) pe_int (nomark _))))) (pss_one (ps_ret pe_bl)) pss_nil)
      (pss_one (ps_ret (pe_and (pe_m0 F.slot_str_isascii F.type_str_isascii mt_isascii (pv 0)) (pe_and (pe_m0 F.slot_str_isalpha F.type_str_isalpha mt_isalpha (pv 0)) (pe_one (pe_m0 F.slot_str_islower F.type_str_islower mt_islower (pv 0)))))))), ?_⟩
    rcases h with ⟨z, rfl, hz, q⟩ | ⟨t, ty, k, q⟩
    · refine ⟨_, rfl, .str z, .ty "str", _, _, true, rfl, .ty "str", .base (.str z), kit_ty (by decide +kernel), _, rfl, iteF ?_⟩
      refine ⟨_, rfl, z, rfl, hz, _, _, rfl, rfl, _, rfl, ?_⟩
      unfold wordB at q
      by_cases c : z.length ≤ 8
      · refine iteFe (decide_eq_false (by omega)) ?_
        rw [decide_eq_true c] at q
        refine ⟨_, rfl, ⟨_, rfl⟩, z, rfl, rfl, trivial, _, rfl, ?_⟩
        cases h1 : PySem.Txt.isascii z with
        | false => rw [h1] at q; exact iteF q
        | true =>
          rw [h1] at q
          refine iteT ⟨_, rfl, ⟨_, rfl⟩, z, rfl, rfl, trivial, _, rfl, ?_⟩
          cases h2 : PySem.Txt.isalpha z with
          | false => rw [h2] at q; exact iteF q
          | true =>
            rw [h2] at q
            exact iteT ⟨_, rfl, ⟨_, rfl⟩, z, rfl, rfl, trivial, q⟩
      · refine iteTe (decide_eq_true (by omega)) ?_
        rw [decide_eq_false c] at q
        exact q
    · exact ⟨_, rfl, y, .ty "str", t, _, false, rfl, .ty "str", ty, k, _, rfl, iteT q⟩
end
end K26F
namespace K26F
open PySem PySem.Spec PyProof.Rows L2 Jg
local macro_rules | `(tactic| walk_at "rd1") => `(tactic| (first
  | refine ⟨_, rfl, ?_⟩
  | refine ⟨_, _, rfl, rfl, ?_⟩
  | refine ⟨_, _, rfl, ?_⟩
  | refine ⟨rfl, ?_⟩
  | (refine ⟨show (0 : Int) < _ by omega, ?_⟩)
  | (refine ⟨Or.inl ⟨by omega, by omega⟩, ?_⟩)
  | (refine ⟨Or.inr ⟨by omega, by omega⟩, ?_⟩)
  | (refine ⟨(⟨by decide, by decide, by decide⟩ : CPow _ _), ?_⟩)
  | refine Or.inl ⟨_, rfl, ?_⟩
  | refine Or.inr ⟨_, rfl, ?_⟩
  | fail "rd"))
local macro_rules | `(tactic| walk_at "rd") => `(tactic| repeat' walk_at "rd1")
/-- __init__ of a kind that is being made -/
def spKInit (K : PySem.W.Frag) (C CI : Addr) : Sp := fun vs H Q E => ∃ x dx u v s H0, vs = [.ref x, u, v, s] ∧ H x = some (.ins C dx []) ∧ Same H0 H ∧ H0 x = none ∧
  ((∃ r : Kd, u = .int r.g ∧ v = oV r.a ∧ s = sV r.s ∧ KOk r ∧ ∀ H', KAt C H' x r → (∀ b o, H b = some o → b ≠ x → H' b = some o) → Q .non H') ∨
   (∃ y, ((y = u ∧ bG K H0 u) ∨ (y = v ∧ gG u ∧ bA K H0 v) ∨ (y = s ∧ gG u ∧ gA v ∧ bS K H0 s)) ∧ ∀ d H', H0 d = none → H' d = some (.xd [(("value" : Str), y)]) → Same H0 H' → E (.ref CI) (some d) H'))
section
variable {P : Program} {w : World} {K : PySem.W.Frag} {mg : Str → Option Value} {base : Heap} {C CI CU : Addr}
theorem sc_InvalidKind_init : FnScope ["self", "value"] ["self", "value"] (defScope s_InvalidKind_init) := ⟨rfl, rfl, rfl, by decide +kernel, rfl, by decide +kernel, by decide +kernel⟩
theorem ok_kinit (D : ExnQ K mg "InvalidKind" CI "InvalidKind.__init__" s_InvalidKind_init "value") : ExnB P w K mg base 1 "InvalidKind" CI (spX CI "value") := by
  obtain ⟨fI, fd, F, a, ty⟩ := D.ini
  refine ⟨D.mg_, D.ovr, fI, fd, _, F.ok sc_InvalidKind_init (fun vs H Q E h => ?_) (fun cdv A outer s H vs Q E hr h => ?_), a, ty, F.binds (fun _ _ _ _ _ _ us hl => match us, hl with | [_, _], _ => rfl)⟩
  · obtain ⟨a, y, rfl, _⟩ := h; rfl
  · obtain ⟨a, y, rfl, ha, k⟩ := h
    exact ⟨_, (pss_one (ps_keep (pv 0) (pv 1))), _, rfl, _, rfl, a, CI, rfl, D.ovr, D.no, ha, fun dx n e => k dx n e⟩
theorem sc_UnknownName_init : FnScope ["self", "name"] ["self", "name"] (defScope s_UnknownName_init) := ⟨rfl, rfl, rfl, by decide +kernel, rfl, by decide +kernel, by decide +kernel⟩
theorem ok_uinit (D : ExnQ K mg "UnknownName" CU "UnknownName.__init__" s_UnknownName_init "name") : ExnB P w K mg base 1 "UnknownName" CU (spX CU "name") := by
  obtain ⟨fI, fd, F, a, ty⟩ := D.ini
  refine ⟨D.mg_, D.ovr, fI, fd, _, F.ok sc_UnknownName_init (fun vs H Q E h => ?_) (fun cdv A outer s H vs Q E hr h => ?_), a, ty, F.binds (fun _ _ _ _ _ _ us hl => match us, hl with | [_, _], _ => rfl)⟩
  · obtain ⟨a, y, rfl, _⟩ := h; rfl
  · obtain ⟨a, y, rfl, ha, k⟩ := h
    exact ⟨_, (pss_one (ps_keep (pv 0) (pv 1))), _, rfl, _, rfl, a, CU, rfl, D.ovr, D.no, ha, fun dx n e => k dx n e⟩
theorem sc_checked_gap : FnScope ["value"] ["value"] (defScope s_checked_gap) := ⟨rfl, rfl, rfl, by decide +kernel, rfl, by decide +kernel, by decide +kernel⟩
theorem ok_cg (D : DefK K mg "_checked_gap" s_checked_gap) (T : Txt K mg C) (G_is_between : Cal P w K mg base CX0 2 "is_between" (spBtwn K)) (G_InvalidKind : ExnB P w K mg base 1 "InvalidKind" CI (spX CI "value")) : Cal P w K mg base (L2.CX P w) 3 "_checked_gap" (spChk gG (bG K) CI) := by
  refine D.calX sc_checked_gap (fun _ _ _ _ _ _ us hl => match us, hl with | [_], _ => rfl) (fun vs H Q E h => ?_) fun f cdv A outer s H vs Q E hr h => ?_
  · obtain ⟨y, rfl, _⟩ := h; rfl
  · obtain ⟨y, rfl, h⟩ := h
    refine ⟨_, (pss_cons (ps_if (pt_not (pt_val (pe_c G_is_between hr (by decide) rfl (pa_cons (pv 0) (pa_cons pe_int (pa_cons (pe_gc rfl T.gLONGEST) pa_nil)))))) (pss_one (ps_raise rfl (takes_of rfl rfl rfl rfl) (pmk_b G_InvalidKind hr (by decide) rfl (pa_cons (pv 0) pa_nil)))) pss_nil)
      (pss_one (ps_ret (pv 0)))), ?_⟩
    rcases h with ⟨⟨g, rfl, g1, g2⟩, q⟩ | ⟨bad, k⟩
    · refine ⟨_, rfl, .int g, 1, L, rfl, .inl ⟨g, rfl, _, rfl, ?_⟩⟩
      rw [decide_eq_true g1, decide_eq_true g2]
      exact iteF ⟨_, rfl, q⟩
    · rcases bad with ⟨i, rfl, e⟩ | no
      · refine ⟨_, rfl, .int i, 1, L, rfl, .inl ⟨i, rfl, _, rfl, ?_⟩⟩
        rw [e]
        exact iteT ⟨_, rfl, x_read fun d nd => k d nd⟩
      · exact ⟨_, rfl, y, 1, L, rfl, .inr ⟨no, _, rfl, iteT ⟨_, rfl, x_read fun d nd => k d nd⟩⟩⟩
theorem sc_checked_age : FnScope ["value"] ["value"] (defScope s_checked_age) := ⟨rfl, rfl, rfl, by decide +kernel, rfl, by decide +kernel, by decide +kernel⟩
theorem ok_ca (D : DefK K mg "_checked_age" s_checked_age) (T : Txt K mg C) (G_is_between : Cal P w K mg base CX0 2 "is_between" (spBtwn K)) (G_InvalidKind : ExnB P w K mg base 1 "InvalidKind" CI (spX CI "value")) : Cal P w K mg base (L2.CX P w) 3 "_checked_age" (spChk gA (bA K) CI) := by
  refine D.calX sc_checked_age (fun _ _ _ _ _ _ us hl => match us, hl with | [_], _ => rfl) (fun vs H Q E h => ?_) fun f cdv A outer s H vs Q E hr h => ?_
  · obtain ⟨y, rfl, _⟩ := h; rfl
  · obtain ⟨y, rfl, h⟩ := h
    refine ⟨_, (pss_cons (ps_if (PW.pt (pw_and (pt_cmpR op_notN (pv 0) pe_non (nomark _)) (pw_and1 (pt_not (pt_val (pe_c G_is_between hr (by decide) rfl (pa_cons (pv 0) (pa_cons pe_int (pa_cons (pe_gc rfl T.gLONGEST) pa_nil))))))))) (pss_one (ps_raise rfl (takes_of rfl rfl rfl rfl) (pmk_b G_InvalidKind hr (by decide) rfl (pa_cons (pv 0) pa_nil)))) pss_nil)
      (pss_one (ps_ret (pv 0)))), ?_⟩
    rcases h with ⟨⟨a, rfl, ok⟩, q⟩ | ⟨⟨nn, bad⟩, k⟩
    · cases a with
      | none => exact ⟨_, rfl, rfl, _, rfl, iteF ⟨_, rfl, q⟩⟩
      | some i =>
        refine ⟨_, rfl, rfl, _, rfl, iteT ⟨_, rfl, .int i, 0, L, rfl, .inl ⟨i, rfl, _, rfl, ?_⟩⟩⟩
        have o := ok i rfl
        rw [decide_eq_true o.1, decide_eq_true o.2]
        exact iteF ⟨_, rfl, q⟩
    · refine ⟨_, rfl, rfl, _, rfl, ?_⟩
      rw [decide_eq_false nn]
      rcases bad with ⟨i, rfl, e⟩ | no
      · refine iteT ⟨_, rfl, .int i, 0, L, rfl, .inl ⟨i, rfl, _, rfl, ?_⟩⟩
        rw [e]
        exact iteT ⟨_, rfl, x_read fun d nd => k d nd⟩
      · exact iteT ⟨_, rfl, y, 0, L, rfl, .inr ⟨no, _, rfl, iteT ⟨_, rfl, x_read fun d nd => k d nd⟩⟩⟩
theorem sc_checked_source : FnScope ["value"] ["value"] (defScope s_checked_source) := ⟨rfl, rfl, rfl, by decide +kernel, rfl, by decide +kernel, by decide +kernel⟩
theorem ok_cs (D : DefK K mg "_checked_source" s_checked_source) (T : Txt K mg C) (G_is_word : Cal P w K mg base CX0 1 "is_word" (spWord K)) (G_InvalidKind : ExnB P w K mg base 1 "InvalidKind" CI (spX CI "value")) : Cal P w K mg base (L2.CX P w) 3 "_checked_source" (spChk gS (bS K) CI) := by
  refine D.calX sc_checked_source (fun _ _ _ _ _ _ us hl => match us, hl with | [_], _ => rfl) (fun vs H Q E h => ?_) fun f cdv A outer s H vs Q E hr h => ?_
  · obtain ⟨y, rfl, _⟩ := h; rfl
  · obtain ⟨y, rfl, h⟩ := h
    refine ⟨_, (pss_cons (ps_if (PW.pt (pw_and (pt_cmpR op_notN (pv 0) pe_non (nomark _)) (pw_and1 (pt_not (pt_val (pe_c G_is_word hr (by decide) rfl (pa_cons (pv 0) pa_nil))))))) (pss_one (ps_raise rfl (takes_of rfl rfl rfl rfl) (pmk_b G_InvalidKind hr (by decide) rfl (pa_cons (pv 0) pa_nil)))) pss_nil)
      (pss_one (ps_ret (pv 0)))), ?_⟩
    rcases h with ⟨⟨s, rfl, ok⟩, q⟩ | ⟨⟨nn, bad⟩, k⟩
    · cases s with
      | none => exact ⟨_, rfl, rfl, _, rfl, iteF ⟨_, rfl, q⟩⟩
      | some z =>
        have o := ok z rfl
        refine ⟨_, rfl, rfl, _, rfl, iteT ⟨_, rfl, .str z, rfl, .inl ⟨z, rfl, o.1, _, rfl, ?_⟩⟩⟩
        rw [o.2]
        exact iteF ⟨_, rfl, q⟩
    · refine ⟨_, rfl, rfl, _, rfl, ?_⟩
      rw [decide_eq_false nn]
      rcases bad with ⟨z, rfl, hz, e⟩ | ⟨t, ty, kt⟩
      · refine iteT ⟨_, rfl, .str z, rfl, .inl ⟨z, rfl, hz, _, rfl, ?_⟩⟩
        rw [e]
        exact iteT ⟨_, rfl, x_read fun d nd => k d nd⟩
      · exact iteT ⟨_, rfl, y, rfl, .inr ⟨t, ty _ (.refl _), kt, _, rfl, iteT ⟨_, rfl, x_read fun d nd => k d nd⟩⟩⟩
theorem sc_Kind_init : FnScope ["self", "gap", "age", "source"] ["self", "gap", "age", "source"] (defScope s_Kind_init) := ⟨rfl, rfl, rfl, by decide +kernel, rfl, by decide +kernel, by decide +kernel⟩
theorem body_kinit (T : Txt K mg C) (G_checked_gap : Cal P w K mg base (L2.CX P w) 3 "_checked_gap" (spChk gG (bG K) CI)) (G_checked_age : Cal P w K mg base (L2.CX P w) 3 "_checked_age" (spChk gA (bA K) CI)) (G_checked_source : Cal P w K mg base (L2.CX P w) 3 "_checked_source" (spChk gS (bS K) CI))
    (f : Addr) : BodyX P w K mg base ["self", "gap", "age", "source"] "Kind.__init__" s_Kind_init f 4 (spKInit K C CI) := by
  intro cdv A outer s H vs Q E hr h
  obtain ⟨x, dx, u, v, so, H0, rfl, hx, s0, n0, h⟩ := h
  refine ⟨_, (pss_cons (ps_fld (pv 0) (pe_cS G_checked_gap (takes_of rfl rfl rfl rfl) hr (by decide) rfl (pa_cons (pv 1) pa_nil)) rfl)
      (pss_cons (ps_fld (pv 0) (pe_cS G_checked_age (takes_of rfl rfl rfl rfl) hr (by decide) rfl (pa_cons (pv 2) pa_nil)) rfl)
      (pss_one (ps_fld (pv 0) (pe_cS G_checked_source (takes_of rfl rfl rfl rfl) hr (by decide) rfl (pa_cons (pv 3) pa_nil)) rfl)))), ?_⟩
  have npos : (0 : Nat) < 1000 := by decide
  have one : (1 : Nat) < 1000 := by decide
  have two : (2 : Nat) < 1000 := by decide
  rcases h with ⟨r, rfl, rfl, rfl, ok, q⟩ | ⟨y, hy, k⟩
  · refine ⟨_, rfl, .int r.g, rfl, .inl ⟨⟨r.g, rfl, ok.g⟩, _, rfl, x, C, dx, [], rfl, hx, T.cl, T.ng, npos, ?_⟩⟩
    rw [show putF "_gap" (V.int r.g) [] = [(("_gap" : Str), V.int r.g)] from rfl]
    refine ⟨_, rfl, oV r.a, rfl, .inl ⟨⟨r.a, rfl, ok.a⟩, _, rfl, x, C, dx, _, rfl, upd_same, T.cl, T.na, one, ?_⟩⟩
    rw [put_a, upd_upd]
    refine ⟨_, rfl, sV r.s, rfl, .inl ⟨⟨r.s, rfl, ok.s⟩, _, rfl, x, C, dx, _, rfl, upd_same, T.cl, T.ns, two, ?_⟩⟩
    rw [put_s, upd_upd]
    exact q _ ⟨dx, upd_same⟩ fun b o e n => by rw [upd_ne n]; exact e
  · rcases hy with ⟨rfl, bad⟩ | ⟨rfl, ⟨g, rfl, g1⟩, bad⟩ | ⟨rfl, ⟨g, rfl, g1⟩, ⟨a, rfl, a1⟩, bad⟩
    · exact ⟨_, rfl, y, rfl, .inr ⟨bad.keep s0, fun d nd => k d _ (s0.free nd) upd_same (same_new' s0 nd)⟩⟩
    · refine ⟨_, rfl, .int g, rfl, .inl ⟨⟨g, rfl, g1⟩, _, rfl, x, C, dx, [], rfl, hx, T.cl, T.ng, npos, ?_⟩⟩
      have s1 := same_mut (o := .ins C dx (putF "_gap" (V.int g) [])) s0 n0
      exact ⟨_, rfl, y, rfl, .inr ⟨⟨bad.1, bad.2.keep s1⟩, fun d nd => k d _ (s1.free nd) upd_same (same_new' s1 nd)⟩⟩
    · refine ⟨_, rfl, .int g, rfl, .inl ⟨⟨g, rfl, g1⟩, _, rfl, x, C, dx, [], rfl, hx, T.cl, T.ng, npos, ?_⟩⟩
      refine ⟨_, rfl, oV a, rfl, .inl ⟨⟨a, rfl, a1⟩, _, rfl, x, C, dx, _, rfl, upd_same, T.cl, T.na, one, ?_⟩⟩
      rw [upd_upd]
      have s1 := same_mut (o := .ins C dx (putF "_age" (oV a) (putF "_gap" (V.int g) []))) s0 n0
      exact ⟨_, rfl, y, rfl, .inr ⟨⟨bad.1, bad.2.keep s1⟩, fun d nd => k d _ (s1.free nd) upd_same (same_new' s1 nd)⟩⟩
end
end K26F
namespace K26F
open PySem PySem.Spec PyProof.Rows L2 Jg
local macro_rules | `(tactic| walk_at "rd1") => `(tactic| (first
  | refine ⟨_, rfl, ?_⟩
  | refine ⟨_, _, rfl, rfl, ?_⟩
  | refine ⟨_, _, rfl, ?_⟩
  | refine ⟨rfl, ?_⟩
  | (refine ⟨show (0 : Int) < _ by omega, ?_⟩)
  | (refine ⟨Or.inl ⟨by omega, by omega⟩, ?_⟩)
  | (refine ⟨Or.inr ⟨by omega, by omega⟩, ?_⟩)
  | (refine ⟨(⟨by decide, by decide, by decide⟩ : CPow _ _), ?_⟩)
  | refine Or.inl ⟨_, rfl, ?_⟩
  | refine Or.inr ⟨_, rfl, ?_⟩
  | fail "rd"))
local macro_rules | `(tactic| walk_at "rd") => `(tactic| repeat' walk_at "rd1")
theorem SameB.refl (p : Addr) (H : Hp) : SameB p H H := fun _ _ e _ => e
theorem SameB.new {p l : Addr} {H H1 : Hp} {o : HO} (a : SameB p H H1) (h : H1 l = none) : SameB p H (upd H1 l o) := fun q u e n => by
  have z := a q u e n
  rw [upd_ne (ne_of_none z h)]
  exact z
theorem SameB.mut {p : Addr} {H H1 : Hp} {o : HO} (a : SameB p H H1) : SameB p H (upd H1 p o) := fun q u e n => by
  rw [upd_ne n]
  exact a q u e n
theorem yes_if {σ : L2.St} {H : Hp} {A B : Hp → Prop} (h : A H) : tYes σ H (fun b H3 => if b = true then A H3 else B H3) := by
  show (if true = true then A H else B H)
  rw [if_pos rfl]
  exact h
theorem SameB.free {p l : Addr} {H H' : Hp} (s : SameB p H H') (n : H' l = none) (np : l ≠ p) : H l = none := by
  cases e : H l with
  | none => rfl
  | some o =>
    have z := s l o e np
    rw [n] at z; cases z
end K26F
namespace K26F
open PySem PySem.Spec PyProof.Rows L2 Jg
local macro_rules | `(tactic| walk_at "rd1") => `(tactic| (first
  | refine ⟨_, rfl, ?_⟩
  | refine ⟨_, _, rfl, rfl, ?_⟩
  | refine ⟨_, _, rfl, ?_⟩
  | refine ⟨rfl, ?_⟩
  | (refine ⟨show (0 : Int) < _ by omega, ?_⟩)
  | (refine ⟨Or.inl ⟨by omega, by omega⟩, ?_⟩)
  | (refine ⟨Or.inr ⟨by omega, by omega⟩, ?_⟩)
  | (refine ⟨(⟨by decide, by decide, by decide⟩ : CPow _ _), ?_⟩)
  | refine Or.inl ⟨_, rfl, ?_⟩
  | refine Or.inr ⟨_, rfl, ?_⟩
  | fail "rd"))
local macro_rules | `(tactic| walk_at "rd") => `(tactic| repeat' walk_at "rd1")
def spPrp (C : Addr) (g : Kd → V) : Sp := fun vs H Q _ => ∃ p r, vs = [.ref p] ∧ KAt C H p r ∧ Q (g r) H
def g3 : List V → List V → List V := fun vs zs => vs ++ zs
theorem kd_val : ∀ (ks : Ks) (z : Str), valV (kvs ks) (Sum.inr z) = (kdOf ks z).map fun e => V.ref e.2.2 := by
  intro ks z
  unfold valV kvs kdOf
  rw [List.find?_map, Option.map_map]
  have e : ((fun kv : Key × V => decide (kv.1 = Sum.inr z)) ∘ fun e : Str × Kd × Addr => ((Sum.inr e.1 : Key), V.ref e.2.2)) = fun e => decide (e.1 = z) := by
    funext e
    show decide ((Sum.inr e.1 : Key) = Sum.inr z) = decide (e.1 = z)
    exact key_rr e.1 z
  rw [e]
  rfl
theorem dget {C : Addr} {H : Hp} {d : Addr} {ks : Ks} {z : Str} {e : Str × Kd × Addr} (kd : Kds C H d ks) (h : kdOf ks z = some e) : DGet H d (.str z) (some (.ref e.2.2)) := by
  have q : DGet H d (.str z) (valV (kvs ks) (Sum.inr z)) := .inl ⟨kvs ks, Sum.inr z, kd.1, rfl, rfl⟩
  rw [kd_val, h] at q
  exact q
theorem chainB_none (ks : Ks) (m : Nat) (acc : List Str) : chainB ks m acc none = acc := by cases m <;> rfl
def spCopied (C : Addr) : Sp := fun vs H Q _ => ∃ p r, vs = [.ref p] ∧ KAt C H p r ∧ KOk r ∧ ∀ x H', H x = none → Same H H' → KAt C H' x r → Q (.ref x) H'
def spChain (C : Addr) : Sp := fun vs H Q _ => ∃ d z ks, vs = [.ref d, .str z] ∧ Kds C H d ks ∧ Fed ks ∧ z ∈ ks.map (·.1) ∧ ∀ l H', H l = none → Same H H' → H' l = some (.lst ((chainF ks z).map V.str)) → Q (.ref l) H'
section
variable {P : Program} {w : World} {K : PySem.W.Frag} {mg : Str → Option Value} {base : Heap} {C CI CU F : Addr}
theorem sc_Kind_gap : FnScope ["self"] ["self"] (defScope s_Kind_gap) := ⟨rfl, rfl, rfl, by decide +kernel, rfl, by decide +kernel, by decide +kernel⟩
theorem ok_gap (D : PrpK K C "gap" "Kind.gap" s_Kind_gap) (T : Txt K mg C) : Prp P w K mg base CX0 1 C "gap" (spPrp C fun r => .int r.g) := by
  refine D.prp sc_Kind_gap (fun _ _ _ _ _ _ us hl => match us, hl with | [_], _ => rfl) (fun vs H Q E h => ?_) fun f cdv A outer s H vs Q E hr h => ?_
  · obtain ⟨p, r, rfl, _⟩ := h; rfl
  · obtain ⟨p, r, rfl, ⟨dx, hp⟩, k⟩ := h
    exact ⟨_, (pss_one (ps_ret (pe_fld (pv 0) rfl))), _, rfl, p, C, dx, _, _, rfl, hp, T.cl, T.ng, get_g _ _ _, k⟩
theorem sc_Kind_age : FnScope ["self"] ["self"] (defScope s_Kind_age) := ⟨rfl, rfl, rfl, by decide +kernel, rfl, by decide +kernel, by decide +kernel⟩
theorem ok_age (D : PrpK K C "age" "Kind.age" s_Kind_age) (T : Txt K mg C) : Prp P w K mg base CX0 1 C "age" (spPrp C fun r => oV r.a) := by
  refine D.prp sc_Kind_age (fun _ _ _ _ _ _ us hl => match us, hl with | [_], _ => rfl) (fun vs H Q E h => ?_) fun f cdv A outer s H vs Q E hr h => ?_
  · obtain ⟨p, r, rfl, _⟩ := h; rfl
  · obtain ⟨p, r, rfl, ⟨dx, hp⟩, k⟩ := h
    exact ⟨_, (pss_one (ps_ret (pe_fld (pv 0) rfl))), _, rfl, p, C, dx, _, _, rfl, hp, T.cl, T.na, get_a _ _ _, k⟩
theorem sc_Kind_source : FnScope ["self"] ["self"] (defScope s_Kind_source) := ⟨rfl, rfl, rfl, by decide +kernel, rfl, by decide +kernel, by decide +kernel⟩
theorem ok_source (D : PrpK K C "source" "Kind.source" s_Kind_source) (T : Txt K mg C) : Prp P w K mg base CX0 1 C "source" (spPrp C fun r => sV r.s) := by
  refine D.prp sc_Kind_source (fun _ _ _ _ _ _ us hl => match us, hl with | [_], _ => rfl) (fun vs H Q E h => ?_) fun f cdv A outer s H vs Q E hr h => ?_
  · obtain ⟨p, r, rfl, _⟩ := h; rfl
  · obtain ⟨p, r, rfl, ⟨dx, hp⟩, k⟩ := h
    exact ⟨_, (pss_one (ps_ret (pe_fld (pv 0) rfl))), _, rfl, p, C, dx, _, _, rfl, hp, T.cl, T.ns, get_s _ _ _, k⟩
theorem sc_copied : FnScope ["kind"] ["kind"] (defScope s_copied) := ⟨rfl, rfl, rfl, by decide +kernel, rfl, by decide +kernel, by decide +kernel⟩
theorem ok_copied (D : DefK K mg "_copied" s_copied) (T : Txt K mg C) (M_Kind : MakW P w K mg base (L2.CX P w) 5 "Kind" C ["gap", "age", "source"] g3 (spKInit K C CI)) (G_gap : Prp P w K mg base CX0 1 C "gap" (spPrp C fun r => .int r.g)) (G_age : Prp P w K mg base CX0 1 C "age" (spPrp C fun r => oV r.a)) (G_source : Prp P w K mg base CX0 1 C "source" (spPrp C fun r => sV r.s)) : Cal P w K mg base CX0 7 "_copied" (spCopied C) := by
  refine D.cal sc_copied (fun _ _ _ _ _ _ us hl => match us, hl with | [_], _ => rfl) (fun vs H Q E h => ?_) fun f cdv A outer s H vs Q E hr h => ?_
  · obtain ⟨p, r, rfl, _⟩ := h; rfl
  · obtain ⟨p, r, rfl, hp, ok, k⟩ := h
    obtain ⟨dp, ep⟩ := id hp
    refine ⟨_, (pss_one (ps_ret (pe_mkKS M_Kind takes0 hr (by decide) rfl (pk_cons (pe_p G_gap T.cl hr (by decide) (pv 0)) (pk_cons (pe_p G_age T.cl hr (by decide) (pv 0)) (pk_cons (pe_p G_source T.cl hr (by decide) (pv 0)) pk_nil)))))), ?_⟩
    refine ⟨_, rfl, p, dp, _, rfl, ep, p, r, rfl, hp, _, rfl, p, dp, _, rfl, ep, p, r, rfl, hp, _, rfl, p, dp, _, rfl, ep, p, r, rfl, hp, rfl, fun x dx nx ndx nex => ?_⟩
    have s1 : Same H (upd (upd H dx (.own x)) x (.ins C dx [])) := same_new' (same_new ndx) (by rw [upd_ne (Ne.symm nex)]; exact nx)
    exact ⟨x, dx, _, _, _, H, rfl, upd_same, s1, nx, .inl ⟨r, rfl, rfl, rfl, ok, fun H' ka kp => ⟨rfl, k x H' nx (Same.made nx ndx kp) ka⟩⟩⟩
theorem sc_chain_to : FnScope ["kinds", "name", "names", "source"] ["kinds", "name"] (defScope s_chain_to) := ⟨rfl, rfl, rfl, by decide +kernel, rfl, by decide +kernel, by decide +kernel⟩
theorem ok_chain_to (D : DefK K mg "_chain_to" s_chain_to) (T : Txt K mg C) (TF : FTx K mg F) (G_source : Prp P w K mg base CX0 1 C "source" (spPrp C fun r => sV r.s)) : Cal P w K mg base CX0 3 "_chain_to" (spChain C) := by
  refine D.cal sc_chain_to (fun _ _ _ _ _ _ us hl => match us, hl with | [_, _], _ => rfl) (fun vs H Q E h => ?_) fun f cdv A outer s H vs Q E hr h => ?_
  · obtain ⟨d, z, ks, rfl, _⟩ := h; rfl
  · obtain ⟨d, z, ks, rfl, kd, fed, mem, k⟩ := h
    have hu1 : (A.deeper (envOfC "_chain_to" (defScope s_chain_to) s.heap.objs.size f cdv)).units + 1 < cLine := Nat.lt_of_le_of_lt (Nat.add_le_add_left (by decide : 1 ≤ 64) _) hr.units
    refine ⟨_, (pss_cons (ps_set (i := 2) sc_chain_to.nd rfl (Or.inl rfl) (pe_lst (pa_cons (pv 1) pa_nil)))
      (pss_cons (ps_set (i := 3) sc_chain_to.nd rfl (Or.inl rfl) (pe_p G_source T.cl hr (by decide) (pe_dget hu1 (pv 0) (pv 1) (fun _ _ => rfl))))
      (pss_cons (ps_while PassesOwn.never (PW.pt (pw_and (pt_cmpR op_notN (pv 3) pe_non (nomark _)) (pw_and1 (pt_cmpR op_le (pe_callB call_len_seq (by rfl) T.b_len (by decide +kernel) (pa_cons (pv 2) pa_nil)) (pe_gc rfl T.g_LONGEST_CHAIN) (nomark _))))) (pss_cons (ps_set (i := 2) sc_chain_to.nd rfl (Or.inl rfl) (pe_lst (pa_cons (pv 3) (StX.pa_star (pv 2) pa_nil))))
      (pss_one (ps_set (i := 3) sc_chain_to.nd rfl (Or.inl rfl) (pe_p G_source T.cl hr (by decide) (pe_dget hu1 (pv 0) (pv 3) (fun _ _ => rfl)))))))
      (pss_one (ps_ret (pv 2)))))), ?_⟩
    obtain ⟨e0, k0, m0, z0⟩ := kd_mem mem
    obtain ⟨⟨x0, a0⟩, o0⟩ := kd.2 e0 m0
    refine ⟨_, rfl, by show 1 ≤ sizeLine; decide, fun l nl => ?_⟩
    have s1 := same_new (o := .lst [V.str z]) nl
    have kd1 := kd.keep s1
    refine ⟨_, rfl, _, rfl, d, .ref e0.2.2, rfl, dget kd1 k0, e0.2.2, x0, _, rfl, s1 _ _ a0, e0.2.2, e0.2.1, rfl, ⟨x0, s1 _ _ a0⟩, ?_⟩
    have srcM : ∀ e ∈ ks, ∀ y, e.2.1.s = some y → y ∈ ks.map (·.1) := fed
    refine ⟨fun m σ H' => ∃ (lq : Addr) (acc : List Str) (so : Option Str), σ = [some (V.ref d), some (V.str z), some (V.ref lq), some (sV so)] ∧ H' lq = some (.lst (acc.map V.str)) ∧ H lq = none ∧ Same H H' ∧ acc.length + m = 5 ∧ chainB ks m acc so = chainF ks z ∧ (∀ y, so = some y → y ∈ ks.map (·.1)), ⟨4, l, [z], e0.2.1.s, rfl, upd_same, nl, s1, rfl, ?_, srcM e0 m0⟩, ?_⟩
    · unfold chainF srcOf
      rw [k0]
      rfl
    · rintro m σ H' ⟨lq, acc, so, rfl, hl, nq, sH, ln, ch, sm⟩
      have kdH := kd.keep sH
      cases so with
      | none =>
        rw [chainB_none] at ch
        exact ⟨_, rfl, rfl, _, rfl, iteF (iteF ⟨_, rfl, k lq H' nq sH (by rw [hl, ch])⟩)⟩
      | some y =>
        refine ⟨_, rfl, rfl, _, rfl, iteT ⟨_, rfl, lq, _, rfl, .inl (SqL.of hl), _, _, rfl, rfl, _, rfl, ?_⟩⟩
        rw [List.length_map]
        cases m with
        | zero =>
          rw [decide_eq_false (by omega)]
          exact iteF ⟨_, rfl, k lq H' nq sH (by rw [hl, ← ch]; rfl)⟩
        | succ m =>
          rw [decide_eq_true (by omega)]
          obtain ⟨e1, k1, m1, z1⟩ := kd_mem (sm y rfl)
          obtain ⟨⟨x1, a1⟩, o1⟩ := kdH.2 e1 m1
          refine iteT ⟨_, fun σ' H'' w => ⟨m, Nat.lt_succ_self m, w⟩, _, rfl, _, rfl, lq, _, rfl, .inr (SqL.of hl), ?_, fun l2 nl2 => ?_⟩
          · rw [List.append_nil, List.length_cons, List.length_map, sizeLine_eq]; omega
          · have s2 := same_new (o := .lst (V.str y :: (acc.map V.str ++ []))) nl2
            have sH2 := sH.trans s2
            refine ⟨_, rfl, _, rfl, d, .ref e1.2.2, rfl, dget (kd.keep sH2) k1, e1.2.2, x1, _, rfl, s2 _ _ a1, e1.2.2, e1.2.1, rfl, ⟨x1, s2 _ _ a1⟩, ?_⟩
            refine ⟨l2, y :: acc, e1.2.1.s, rfl, by rw [upd_same, List.append_nil]; rfl, sH.free nl2, sH2, by rw [List.length_cons]; omega, ?_, srcM e1 m1⟩
            rw [← ch]
            show _ = chainB ks m (y :: acc) (srcOf ks y)
            unfold srcOf
            rw [k1]
            rfl
end
end K26F
namespace K26F
open PySem PySem.Spec PyProof.Rows L2 Jg
local macro_rules | `(tactic| walk_at "rd1") => `(tactic| (first
  | refine ⟨_, rfl, ?_⟩
  | refine ⟨_, _, rfl, rfl, ?_⟩
  | refine ⟨_, _, rfl, ?_⟩
  | refine ⟨rfl, ?_⟩
  | (refine ⟨show (0 : Int) < _ by omega, ?_⟩)
  | (refine ⟨Or.inl ⟨by omega, by omega⟩, ?_⟩)
  | (refine ⟨Or.inr ⟨by omega, by omega⟩, ?_⟩)
  | (refine ⟨(⟨by decide, by decide, by decide⟩ : CPow _ _), ?_⟩)
  | refine Or.inl ⟨_, rfl, ?_⟩
  | refine Or.inr ⟨_, rfl, ?_⟩
  | fail "rd"))
local macro_rules | `(tactic| walk_at "rd") => `(tactic| repeat' walk_at "rd1")
theorem lc_w {J : It} {n : Nat} {G : Hp → Prop} {Y : Nat → Hp → V → Hp → Prop} (W : Walk J n G Y) {g : TG} {tt : TT} {te : TE} {vs : List Nat} {σ : L2.St} {H1 : Hp} {D : Addr} {Qd : Hp → Prop} (Pv : Nat → Hp → Prop) (h0 : Pv 0 (upd H1 D (.lst []))) (hG : ∀ i H, Pv i H → G H)
    (hs : ∀ i H x H', i < n → Pv i H → Y i H x H' → g x (wipe σ vs) H' fun σ2 H2 => wipe σ2 vs = wipe σ vs ∧ tt σ2 H2 fun b H3 =>
      if b = true then te σ2 H3 fun y H4 => ∃ acc, H4 D = some (.lst acc) ∧ acc.length < sizeLine ∧ Pv (i + 1) (upd H4 D (.lst (acc ++ [y]))) else Pv (i + 1) H3) (hd : ∀ H, Pv n H → Qd H) : LcAsk J g tt te vs σ H1 D Qd := by
  refine ⟨fun i m H => m = n - i ∧ i ≤ n ∧ Pv i H, ⟨_, rfl, Nat.zero_le _, h0⟩, ?_⟩
  rintro i m H ⟨rfl, hi, p⟩
  rcases Nat.lt_or_ge i n with lt | ge
  · exact .inr ⟨W.goes i H lt (hG i H p), Pv (i + 1), (fun H' p' => ⟨_, by omega, rfl, lt, p'⟩), fun x H' y => hs i H x H' lt p (W.yields i H x H' lt (hG i H p) y)⟩
  · have e : i = n := by omega
    subst e
    exact .inl ⟨W.stops H (hG i H p), hd H p⟩
def rLenL (K : PySem.W.Frag) : List V → Hp → VK → Prop := fun xs H Q => ∃ p ys, xs = [.ref p] ∧ SqL K H p ys ∧ Q (.int ys.length) H
theorem call_lenK {X : Cx} {K : PySem.W.Frag} (e : X.K = K) : CallR X (.builtin "len") (rLenL K) := by
  subst e
  intro pins s σ H xs us Q I r ⟨p, ys, e, h, q⟩
  exact call_len_seq pins s σ H xs us Q I r ⟨p, ys, e, .inl h, q⟩
theorem fkc : ¬ (("_kinds" : Str) = "_calls") := by decide +kernel
theorem put_k2 (d c e : Addr) : putF "_kinds" (.ref e) (ff d c) = ff e c := by
  show (if ("_kinds" : Str) = "_kinds" then _ else _) = _
  rw [if_pos rfl]; rfl
theorem put_c (d c : Addr) : putF "_calls" (.ref c) [(("_kinds" : Str), V.ref d)] = ff d c := by
  show (if ("_kinds" : Str) = "_calls" then _ else _) = _
  rw [if_neg fkc]; rfl
theorem get_k (d c : Addr) : (ff d c).lookup ("_kinds" : Str) = some (.ref d) := by
  have e : ((("_kinds" : Str)) == ("_kinds" : Str)) = true := by decide +kernel
  simp only [ff, List.lookup, e]
theorem get_c (d c : Addr) : (ff d c).lookup ("_calls" : Str) = some (.ref c) := by
  have e1 : ((("_calls" : Str)) == ("_kinds" : Str)) = false := by decide +kernel
  have e2 : ((("_calls" : Str)) == ("_calls" : Str)) = true := by decide +kernel
  simp only [ff, List.lookup, e1, e2]
theorem get_fno (d c : Addr) {m : Str} (h1 : (m == ("_kinds" : Str)) = false) (h2 : (m == ("_calls" : Str)) = false) : (ff d c).lookup m = none := by
  simp only [ff, List.lookup, h1, h2]
def putKs (ks : Ks) (z : Str) (r : Kd) (x : Addr) : Ks := if ks.any (fun e => decide (e.1 = z)) then ks.map (fun e => if e.1 = z then (z, r, x) else e) else ks ++ [(z, r, x)]
theorem any_key (ks : Ks) (z : Str) : ((kvs ks).any fun kv => decide (kv.1 = Sum.inr z)) = ks.any fun e => decide (e.1 = z) := by
  unfold kvs
  rw [List.any_map]
  congr 1
  funext e
  exact key_rr e.1 z
theorem kvs_put (ks : Ks) (z : Str) (r : Kd) (x : Addr) : kvs (putKs ks z r x) = putK (kvs ks) (Sum.inr z) (.ref x) := by
  unfold putKs putK
  rw [any_key]
  split
  · unfold kvs
    rw [List.map_map, List.map_map]
    refine List.map_congr_left fun e _ => ?_
    show (Sum.inr (if e.1 = z then (z, r, x) else e).1, V.ref (if e.1 = z then (z, r, x) else e).2.2) = (if (Sum.inr e.1 : Key) = Sum.inr z then _ else _)
    by_cases c : e.1 = z
    · rw [if_pos c, if_pos (by rw [c])]
      show ((Sum.inr z : Key), V.ref x) = (Sum.inr e.1, V.ref x)
      rw [c]
    · rw [if_neg c, if_neg (fun q => c (Sum.inr.inj q))]
  · unfold kvs
    rw [List.map_append]
    rfl
theorem mem_put {ks : Ks} {z : Str} {r : Kd} {x : Addr} {e : Str × Kd × Addr} (h : e ∈ putKs ks z r x) : e ∈ ks ∨ e = (z, r, x) := by
  unfold putKs at h
  split at h
  · obtain ⟨o, ho, q⟩ := List.mem_map.mp h
    by_cases c : o.1 = z
    · rw [if_pos c] at q; exact .inr q.symm
    · rw [if_neg c] at q; exact .inl (q ▸ ho)
  · rcases List.mem_append.mp h with h | h
    · exact .inl h
    · exact .inr (List.mem_singleton.mp h)
theorem len_put (ks : Ks) (z : Str) (r : Kd) (x : Addr) (h : z ∈ ks.map (·.1) ∨ ks.length < 5) (h5 : ks.length ≤ 5) : (putKs ks z r x).length ≤ 5 := by
  unfold putKs
  split
  · rw [List.length_map]; exact h5
  · rename_i c
    rw [List.length_append]
    show ks.length + 1 ≤ 5
    rcases h with h | h
    · obtain ⟨e, he, q⟩ := List.mem_map.mp h
      exact absurd (List.any_eq_true.mpr ⟨e, he, decide_eq_true q⟩) c
    · omega
def spFInit (F C : Addr) : Sp := fun vs H Q _ => ∃ x dx, vs = [.ref x] ∧ H x = some (.ins F dx []) ∧ ∀ H' d c, H d = none → H c = none → FltAt F C H' x d c [] [] → (∀ b o, H b = some o → b ≠ x → H' b = some o) → Q .non H'
theorem names_put {ks : Ks} {z : Str} {r : Kd} {x : Addr} {y : Str} (h : y ∈ ks.map (·.1)) : y ∈ (putKs ks z r x).map (·.1) := by
  obtain ⟨e, he, rfl⟩ := List.mem_map.mp h
  unfold putKs
  split
  · by_cases c : e.1 = z
    · exact List.mem_map.mpr ⟨(z, r, x), List.mem_map.mpr ⟨e, he, if_pos c⟩, c.symm⟩
    · exact List.mem_map.mpr ⟨e, List.mem_map.mpr ⟨e, he, if_neg c⟩, rfl⟩
  · exact List.mem_map.mpr ⟨e, List.mem_append_left _ he, rfl⟩
theorem fed_put {ks : Ks} {z : Str} {r : Kd} {x : Addr} (fed : Fed ks) (src : ∀ s, r.s = some s → s ∈ ks.map (·.1)) : Fed (putKs ks z r x) := fun e he y ey => by
  rcases mem_put he with h | h
  · exact names_put (fed e h y ey)
  · rw [h] at ey; exact names_put (src y ey)
/-- is the chain of e too long -/
def lg (ks : Ks) (e : Str × Kd × Addr) : Bool := decide ((4 : Int) < (((chainF ks e.1).map V.str).length : Int))
/-- what is refused as a kind of the fleet, whatever the fleet holds -/
def BadSet (K : PySem.W.Frag) (C : Addr) (H : Hp) (y v : V) : Prop := (∃ z, y = .str z ∧ z.length ≤ sizeLine ∧ wordB z = false) ∨ (∃ t, TyX K H y t ∧ kit K t "str" false) ∨ (∃ z t, y = .str z ∧ z.length ≤ sizeLine ∧ wordB z = true ∧ TyX K H v t ∧ PySem.W.kitOne K t (.ref C) = some false)
def spSet (K : PySem.W.Frag) (F C CI CU CO : Addr) : Sp := fun vs H Q E => ∃ (f d c : Addr) (y v : V) (ks : Ks) (cs : List V), vs = [.ref f, y, v] ∧ FltAt F C H f d c ks cs ∧ ks.length ≤ 5 ∧ Fed ks ∧
  ((BadSet K C H y v ∧ ∀ d' H', H d' = none → H' d' = some (.xd [(("value" : Str), y)]) → Same H H' → E (.ref CI) (some d') H') ∨
   (∃ (p : Addr) (z : Str) (r : Kd), y = .str z ∧ v = .ref p ∧ KAt C H p r ∧ KOk r ∧ z.length ≤ sizeLine ∧ wordB z = true ∧
    ((∃ s, r.s = some s ∧ s ∉ ks.map (·.1) ∧ ∀ d' H', H d' = none → H' d' = some (.xd [(("name" : Str), .str s)]) → Same H H' → E (.ref CU) (some d') H') ∨
     ((∀ s, r.s = some s → s ∈ ks.map (·.1)) ∧
      ((z ∉ ks.map (·.1) ∧ ks.length = 5 ∧ ∀ d' H', H d' = none → H' d' = some (.xd [(("limit" : Str), .int 5)]) → Same H H' → E (.ref CO) (some d') H') ∨
       ((z ∈ ks.map (·.1) ∨ ks.length < 5) ∧
        (((∀ x, (putKs ks z r x).any (lg (putKs ks z r x)) = true) ∧ ∀ d' H', H d' = none → H' d' = some (.xd [(("value" : Str), .str z)]) → Same H H' → E (.ref CI) (some d') H') ∨
         ((∀ x, (putKs ks z r x).any (lg (putKs ks z r x)) = false) ∧ ∀ d' x H', H d' = none → H x = none → FltAt F C H' f d' c (putKs ks z r x) cs → (∀ b o, H b = some o → b ≠ f → H' b = some o) → Q .non H'))))))))
section
variable {P : Program} {w : World} {K : PySem.W.Frag} {mg : Str → Option Value} {base : Heap} {C CI CU CO F : Addr}
theorem sc_Fleet_init : FnScope ["self"] ["self"] (defScope s_Fleet_init) := ⟨rfl, rfl, rfl, by decide +kernel, rfl, by decide +kernel, by decide +kernel⟩
theorem ok_finit (D : MetK K F "__init__" "Fleet.__init__" s_Fleet_init) (TF : FTx K mg F) : Met P w K mg base CX0 1 F "__init__" (spFInit F C) := by
  refine D.met sc_Fleet_init (fun _ _ _ _ _ _ us hl => match us, hl with | [_], _ => rfl) (fun vs H Q E h => ?_) fun f cdv A outer s H vs Q E hr h => ?_
  · obtain ⟨x, dx, rfl, _⟩ := h; rfl
  · obtain ⟨x, dx, rfl, ex, k⟩ := h
    refine ⟨_, (pss_cons (ps_fld (pv 0) pe_dnewK rfl)
      (pss_one (ps_fld (pv 0) (pe_lst pa_nil) rfl))), ?_⟩
    have npos : (0 : Nat) < 1000 := by decide
    have one : (1 : Nat) < 1000 := by decide
    refine fun d nd => ⟨_, rfl, x, F, dx, [], rfl, same_new nd _ _ ex, TF.cl, TF.nk, npos, ?_⟩
    rw [show putF "_kinds" (V.ref d) [] = [(("_kinds" : Str), V.ref d)] from rfl]
    have dx' : d ≠ x := fun z => by rw [z, ex] at nd; cases nd
    refine ⟨by show 0 ≤ sizeLine; decide, fun c nc => ?_⟩
    have cx : c ≠ x := fun z => by rw [z, upd_same] at nc; cases nc
    have cd : c ≠ d := fun z => by rw [z, upd_ne dx', upd_same] at nc; cases nc
    refine ⟨_, rfl, x, F, dx, [(("_kinds" : Str), V.ref d)], rfl, by rw [upd_ne (Ne.symm cx), upd_same], TF.cl, TF.nc, one, ?_⟩
    rw [put_c]
    have hd : upd (upd (upd (upd H d (.dK [])) x (.ins F dx [(("_kinds" : Str), V.ref d)])) c (.lst [])) x (.ins F dx (ff d c)) d = some (.dK []) := by rw [upd_ne dx', upd_ne (Ne.symm cd), upd_ne dx', upd_same]
    refine k _ d c nd ((same_new nd).free (by rw [upd_ne cx] at nc; exact nc)) ⟨⟨dx, upd_same⟩, hd, ⟨.inl hd, fun e he => nomatch he⟩, by rw [upd_ne cx, upd_same]⟩ fun b o e n => ?_
    rw [upd_ne n]
    have nb : H c = none := (same_new nd).free (by rw [upd_ne cx] at nc; exact nc)
    rw [upd_ne (ne_of_none e nb), upd_ne n, upd_ne (ne_of_none e nd)]
    exact e
theorem sc_LimitExceeded_init : FnScope ["self", "limit"] ["self", "limit"] (defScope s_LimitExceeded_init) := ⟨rfl, rfl, rfl, by decide +kernel, rfl, by decide +kernel, by decide +kernel⟩
theorem ok_linit (D : ExnQ K mg "LimitExceeded" CO "LimitExceeded.__init__" s_LimitExceeded_init "limit") : ExnB P w K mg base 1 "LimitExceeded" CO (spX CO "limit") := by
  obtain ⟨fI, fd, F, a, ty⟩ := D.ini
  refine ⟨D.mg_, D.ovr, fI, fd, _, F.ok sc_LimitExceeded_init (fun vs H Q E h => ?_) (fun cdv A outer s H vs Q E hr h => ?_), a, ty, F.binds (fun _ _ _ _ _ _ us hl => match us, hl with | [_, _], _ => rfl)⟩
  · obtain ⟨a, y, rfl, _⟩ := h; rfl
  · obtain ⟨a, y, rfl, ha, k⟩ := h
    exact ⟨_, (pss_one (ps_keep (pv 0) (pv 1))), _, rfl, _, rfl, a, CO, rfl, D.ovr, D.no, ha, fun dx n e => k dx n e⟩
theorem sc_Fleet_setitem : FnScope ["self", "at", "worth", "kinds", "name"] ["self", "at", "worth"] (defScope s_Fleet_setitem) := ⟨rfl, rfl, rfl, by decide +kernel, rfl, by decide +kernel, by decide +kernel⟩
theorem ok_fset (D : MetK K F "__setitem__" "Fleet.__setitem__" s_Fleet_setitem) (T : Txt K mg C) (TF : FTx K mg F) (G_is_word : Cal P w K mg base CX0 1 "is_word" (spWord K)) (G_source : Prp P w K mg base CX0 1 C "source" (spPrp C fun r => sV r.s)) (G_copied : Cal P w K mg base CX0 7 "_copied" (spCopied C)) (G_chain_to : Cal P w K mg base CX0 3 "_chain_to" (spChain C)) (G_InvalidKind : ExnB P w K mg base 1 "InvalidKind" CI (spX CI "value")) (G_UnknownName : ExnB P w K mg base 1 "UnknownName" CU (spX CU "name")) (G_LimitExceeded : ExnB P w K mg base 1 "LimitExceeded" CO (spX CO "limit")) : Met P w K mg base (L2.CX P w) 8 F "__setitem__" (spSet K F C CI CU CO) := by
  refine D.metX sc_Fleet_setitem (fun _ _ _ _ _ _ us hl => match us, hl with | [_, _, _], _ => rfl) (fun vs H Q E h => ?_) fun f cdv A outer s H vs Q E hr h => ?_
  · obtain ⟨f, d, c, y, v, ks, cs, rfl, _⟩ := h; rfl
  · obtain ⟨f, d, c, y, v, ks, cs, rfl, fa, few, fed, k⟩ := h
    have hu1 : (A.deeper (envOfC "Fleet.__setitem__" (defScope s_Fleet_setitem) s.heap.objs.size f cdv)).units + 1 < cLine := Nat.lt_of_le_of_lt (Nat.add_le_add_left (by decide : 1 ≤ 64) _) hr.units
    refine ⟨_, (pss_cons (ps_if (PW.pt (pw_or (pt_not (pt_val (pe_c G_is_word hr (by decide) rfl (pa_cons (pv 1) pa_nil)))) (pw_or1 (pt_not (pt_val (pe_callB call_isi (by rfl) T.b_isinstance (by decide +kernel) (pa_cons (pv 2) (pa_cons (pe_glob (v := .ref C) rfl T.cKind rfl) pa_nil)))))))) (pss_one (ps_raise rfl (takes_of rfl rfl rfl rfl) (pmk_b G_InvalidKind hr (by decide) rfl (pa_cons (pv 1) pa_nil)))) pss_nil)
      (C8.pss_cut (ps_if (PW.pt (pw_and (pt_cmpR op_notN (pe_p G_source T.cl hr (by decide) (pv 2)) pe_non (nomark _)) (pw_and1 (pt_cmp (pc_dnotin hu1 (pe_p G_source T.cl hr (by decide) (pv 2)) (pe_fld (pv 0) rfl)))))) (pss_one (ps_raise rfl (takes_of rfl rfl rfl rfl) (pmk_b G_UnknownName hr (by decide) rfl (pa_cons (pe_p G_source T.cl hr (by decide) (pv 2)) pa_nil)))) pss_nil)
      (C8.pss_cut (ps_if (PW.pt (pw_and (pt_cmp (pc_dnotin hu1 (pv 1) (pe_fld (pv 0) rfl))) (pw_and1 (pt_cmpR op_eq (pe_callB call_lenD (by rfl) T.b_len (by decide +kernel) (pa_cons (pe_fld (pv 0) rfl) pa_nil)) (pe_gc rfl T.gMOST_KINDS) (nomark _))))) (pss_one (ps_raise rfl (takes_of rfl rfl rfl rfl) (pmk_b G_LimitExceeded hr (by decide) rfl (pa_cons (pe_gc rfl T.gMOST_KINDS) pa_nil)))) pss_nil)
      (pss_cons (ps_set (i := 3) sc_Fleet_setitem.nd rfl (Or.inr rfl) (pe_callTy cr_copyD (by rfl) T.b_dict (by decide +kernel) (pa_cons (pe_fld (pv 0) rfl) pa_nil)))
      (pss_cons (ps_dput hu1 (pv 3) (pv 1) (pe_c G_copied hr (by decide) rfl (pa_cons (pv 2) pa_nil)) rfl)
      (pss_cons (ps_if (pt_val (pe_lock (pe_callB (cr_any rfl) (by rfl) T.b_any (by decide +kernel) (pa_cons (pe_lc (own := [("name", 4)]) (g := gName 4) (by rfl) sc_Fleet_setitem.nd (pi_keys (pv 3)) (blkOk_by (own := [("name", 4)]) (N := ["self", "at", "worth", "kinds", "name"]) (sc := defScope s_Fleet_setitem) (by decide +kernel)) (fun _ _ _ _ _ => pg_name (i := 4) sc_Fleet_setitem.nd rfl (Or.inl rfl)) (fun _ _ _ _ _ => pts_nil) (fun _ _ _ _ _ => (pe_cmpR op_gt (pe_callB (r := rLenL K) (call_lenK rfl) (by rfl) T.b_len (by decide +kernel) (pa_cons (pe_c G_chain_to hr (by decide) rfl (pa_cons (pv 3) (pa_cons (pv 4) pa_nil))) pa_nil)) (pe_gc rfl T.g_LONGEST_CHAIN) (nomark _)))) pa_nil)))) (pss_one (ps_raise rfl (takes_of rfl rfl rfl rfl) (pmk_b G_InvalidKind hr (by decide) rfl (pa_cons (pv 1) pa_nil)))) pss_nil)
      (pss_one (ps_fld (pv 0) (pv 3) rfl)))))))), ?_⟩
    obtain ⟨dx, ef⟩ := id fa.at_
    rcases k with ⟨bad, k⟩ | ⟨p, z, r, rfl, rfl, kp, ok, hz, wz, k⟩
    · rcases bad with ⟨z, rfl, hz, wz⟩ | ⟨t, ty, kt⟩ | ⟨z, t, rfl, hz, wz, ty, kt⟩
      · refine ⟨_, rfl, .str z, rfl, .inl ⟨z, rfl, hz, _, rfl, ?_⟩⟩
        rw [wz]
        exact iteT (iteT ⟨_, rfl, x_read fun d nd => k d _ nd upd_same (same_new nd)⟩)
      · exact ⟨_, rfl, y, rfl, .inr ⟨t, ty, kt, _, rfl, iteT (iteT ⟨_, rfl, x_read fun d nd => k d _ nd upd_same (same_new nd)⟩)⟩⟩
      · refine ⟨_, rfl, .str z, rfl, .inl ⟨z, rfl, hz, _, rfl, ?_⟩⟩
        rw [wz]
        exact iteF ⟨_, rfl, v, .ref C, t, _, false, rfl, .own C, ty, kt, _, rfl, iteT ⟨_, rfl, x_read fun d nd => k d _ nd upd_same (same_new nd)⟩⟩
    obtain ⟨dp, ep⟩ := id kp
    refine ⟨_, rfl, .str z, rfl, .inl ⟨z, rfl, hz, _, rfl, ?_⟩⟩
    rw [wz]
    refine iteF ⟨_, rfl, .ref p, .ref C, .ref C, _, true, rfl, .own C, T.ty kp, T.kCC, _, rfl, iteF ?_⟩
    have kdz : ∀ y : Str, DGet H d (.str y) (valV (kvs ks) (Sum.inr y)) := fun y => .inl ⟨kvs ks, Sum.inr y, .inl fa.ed, rfl, rfl⟩
    have st0 : L2.start ["self", "at", "worth", "kinds", "name"] [V.ref f, V.str z, V.ref p] = [some (V.ref f), some (V.str z), some (V.ref p), none, none] := rfl
    rw [st0]
    refine ⟨fun sg H' => sg = [some (V.ref f), some (V.str z), some (V.ref p), none, none] ∧ H' = H ∧ ∀ s, r.s = some s → s ∈ ks.map (·.1), ?_, ?_⟩
    · refine ⟨_, rfl, p, dp, _, rfl, ep, p, r, rfl, kp, rfl, _, rfl, ?_⟩
      cases es : r.s with
      | none => exact iteFe (show (!decide (sV r.s = V.non)) = false by rw [es]; rfl) (iteF ⟨rfl, rfl, fun s e => by cases e⟩)
      | some y =>
        have dk := kdz y
        rw [kd_val] at dk
        refine iteTe (show (!decide (sV r.s = V.non)) = true by rw [es]; rfl) ⟨_, rfl, p, dp, _, rfl, ep, p, r, rfl, kp, _, rfl, f, F, dx, _, _, rfl, ef, TF.cl, TF.nk, get_k _ _, d, _, rfl, show DGet H d (sV r.s) _ from (by rw [es]; exact dk), _, rfl, ?_⟩
        by_cases m : y ∈ ks.map (·.1)
        · obtain ⟨e1, k1, m1, z1⟩ := kd_mem m
          rw [k1]
          exact iteF ⟨rfl, rfl, fun s e => by cases e; exact m⟩
        · rw [List.find?_eq_none.mpr (fun e he q => m (List.mem_map.mpr ⟨e, he, by simpa using q⟩)) |> (show kdOf ks y = none from ·)]
          refine iteT ⟨_, rfl, p, dp, _, rfl, ep, p, r, rfl, kp, ?_⟩
          rcases k with ⟨s0, e0, n0, q⟩ | ⟨src, _⟩
          · rw [es] at e0
            cases e0
            refine x_read fun d nd => ?_
            refine q d _ nd ?_ (same_new nd)
            rw [upd_same]
            show some (HO.xd [(("name" : Str), sV r.s)]) = _
            rw [es]; rfl
          · exact absurd (src y es) m
    · rintro sg H1 ⟨rfl, rfl, src⟩
      have k := k.resolve_left fun ⟨s0, e0, n0, _⟩ => n0 (src s0 e0)
      have k := k.2
      refine ⟨fun sg H' => sg = [some (V.ref f), some (V.str z), some (V.ref p), none, none] ∧ H' = H1 ∧ (z ∈ ks.map (·.1) ∨ ks.length < 5), ?_, ?_⟩
      · refine ⟨_, rfl, _, rfl, f, F, dx, _, _, rfl, ef, TF.cl, TF.nk, get_k _ _, d, _, rfl, kdz z, _, rfl, ?_⟩
        rw [kd_val]
        by_cases c : z ∈ ks.map (·.1)
        · obtain ⟨e1, k1, m1, z1⟩ := kd_mem c
          rw [k1]
          exact iteF (iteF ⟨rfl, rfl, .inl c⟩)
        · have no : kdOf ks z = none := List.find?_eq_none.mpr fun e he q => c (List.mem_map.mpr ⟨e, he, by simpa using q⟩)
          rw [no]
          refine iteT ⟨_, rfl, f, F, dx, _, _, rfl, ef, TF.cl, TF.nk, get_k _ _, d, _, rfl, fa.ed, ?_⟩
          have kl : (kvs ks).length = ks.length := List.length_map ..
          by_cases l5 : ks.length < 5
          · refine ⟨rfl, _, rfl, iteFe (decide_eq_false fun q => ?_) ⟨rfl, rfl, .inr l5⟩⟩
            have q2 := V.int.inj q
            omega
          · rcases k with ⟨_, l, q⟩ | ⟨room, _⟩
            · exact ⟨rfl, _, rfl, iteTe (by rw [kl, l]; rfl) (x_read fun d0 nd0 => q d0 _ nd0 upd_same (same_new nd0))⟩
            · exact absurd room (fun q => q.elim c l5)
      · rintro sg H2 ⟨rfl, rfl, room⟩
        have k := (k.resolve_left fun ⟨n, l, _⟩ => room.elim n fun q => by omega).2
        refine ⟨_, rfl, f, F, dx, _, _, rfl, ef, TF.cl, TF.nk, get_k _ _, d, kvs ks, rfl, .inl fa.ed, fun d' nd' => ?_⟩
        have s1 := same_new (o := .dK (kvs ks)) nd'
        refine ⟨_, rfl, p, r, rfl, same_kat s1 kp, ok, fun x H' nx sx kx => ?_⟩
        have hl5 : (kvs ks).length < sizeLine := by
          have kl : (kvs ks).length = ks.length := List.length_map ..
          rw [kl, sizeLine_eq]; omega
        have ed' : H' d' = some (.dK (kvs ks)) := sx _ _ upd_same
        have xd : x ≠ d' := fun q => by rw [q, upd_same] at nx; cases nx
        have nxH : H2 x = none := by rw [upd_ne xd] at nx; exact nx
        refine ⟨_, rfl, _, rfl, d', _, rfl, .inl ⟨kvs ks, Sum.inr z, ed', rfl, hl5, rfl⟩, ?_⟩
        rw [← kvs_put ks z r x]
        have hs : Same H2 H' := s1.trans sx
        have hp : Same H2 (upd H' d' (.dK (kvs (putKs ks z r x)))) := same_mut hs nd'
        have edP : upd H' d' (.dK (kvs (putKs ks z r x))) d' = some (.dK (kvs (putKs ks z r x))) := upd_same
        have katP : ∀ e ∈ putKs ks z r x, (KAt C (upd H' d' (.dK (kvs (putKs ks z r x)))) e.2.2 e.2.1 ∧ KOk e.2.1) := fun e he => by
          rcases mem_put he with h | h
          · exact ⟨same_kat hp (fa.kds.2 e h).1, (fa.kds.2 e h).2⟩
          · subst h
            obtain ⟨dk, ek⟩ := kx
            exact ⟨⟨dk, by rw [upd_ne xd]; exact ek⟩, ok⟩
        have l5 := len_put ks z r x room few
        have fed' := fed_put (z := z) (r := r) (x := x) fed src
        have k' : ((putKs ks z r x).any (lg (putKs ks z r x)) = true ∧ ∀ d' H', H2 d' = none → H' d' = some (.xd [(("value" : Str), .str z)]) → Same H2 H' → E (.ref CI) (some d') H') ∨ ((putKs ks z r x).any (lg (putKs ks z r x)) = false ∧ ∀ d' H', H2 d' = none → H2 x = none → FltAt F C H' f d' c (putKs ks z r x) cs → (∀ b o, H2 b = some o → b ≠ f → H' b = some o) → Q .non H') := k.imp (fun q => ⟨q.1 x, q.2⟩) fun q => ⟨q.1 x, fun d' => q.2 d' x⟩
        clear k
        generalize hks : putKs ks z r x = ks' at *
        generalize upd H' d' (.dK (kvs ks')) = HP at *
        have dl : (kvs ks').length = ks'.length := List.length_map ..
        refine ⟨d', _, edP, trivial, fun od => ?_⟩
        have el : upd HP d' (.frz od (.dK (kvs ks'))) d' = some (.frz od (.dK (kvs ks'))) := upd_same
        have ne : ∀ e ∈ ks', e.2.2 ≠ d' := fun e he q => by
          obtain ⟨dk, ek⟩ := (katP e he).1
          rw [q, edP] at ek
          cases ek
        have kdL : Kds C (upd HP d' (.frz od (.dK (kvs ks')))) d' ks' := ⟨.inr ⟨od, el⟩, fun e he => ⟨by
          obtain ⟨dk, ek⟩ := (katP e he).1
          exact ⟨dk, by rw [upd_ne (ne e he)]; exact ek⟩, (katP e he).2⟩⟩
        have back : ∀ H3, Same (upd HP d' (.frz od (.dK (kvs ks')))) H3 → Same HP (upd H3 d' (.dK (kvs ks'))) := fun H3 s q o e => by
          by_cases c : q = d'
          · rw [c] at e ⊢
            rw [upd_same, ← edP]; exact e
          · rw [upd_ne c]
            exact s _ _ (by rw [upd_ne c]; exact e)
        generalize upd HP d' (.frz od (.dK (kvs ks'))) = HL at *
        refine ⟨_, rfl, d', od, rfl, .inl ⟨_, el, fun D nD => lc_w walk_keys (fun i H3 => Same HL H3 ∧ H3 D = some (.lst ((ks'.take i).map fun e => V.bl (lg ks' e)))) ⟨same_new nD, upd_same⟩ (fun i H3 q => q.1 _ _ el) ?_ ?_⟩⟩
        · rintro i H3 y H4 lt ⟨s2, eD⟩ ⟨rfl, kk, vv, ek, rfl⟩
          obtain ⟨e, er, e1⟩ : ∃ e, ks'[i]? = some e ∧ (kk, vv) = ((Sum.inr e.1 : Key), V.ref e.2.2) := by
            unfold kvs at ek
            rw [List.getElem?_map] at ek
            cases c : ks'[i]? with
            | none => rw [c] at ek; cases ek
            | some e => rw [c] at ek; exact ⟨e, rfl, (Option.some.inj ek).symm⟩
          obtain ⟨rfl, rfl⟩ : kk = Sum.inr e.1 ∧ vv = V.ref e.2.2 := ⟨congrArg Prod.fst e1, congrArg Prod.snd e1⟩
          have he := List.mem_of_getElem? er
          have tk : ks'.take (i + 1) = ks'.take i ++ [e] := by rw [List.take_succ, er]; rfl
          refine ⟨rfl, yes_if ⟨_, rfl, _, rfl, d', e.1, ks', rfl, kdL.keep s2, fed', List.mem_map.mpr ⟨e, he, rfl⟩, fun l H5 nl s5 el5 => ⟨l, _, rfl, SqL.of el5, _, _, rfl, rfl, ?_⟩⟩⟩
          have fin : ∀ b : Bool, b = lg ks' e → ∃ acc, H5 D = some (.lst acc) ∧ acc.length < sizeLine ∧ Same HL (upd H5 D (.lst (acc ++ [V.bl b]))) ∧ upd H5 D (.lst (acc ++ [V.bl b])) D = some (.lst ((ks'.take (i + 1)).map fun e => V.bl (lg ks' e))) := fun b hb => by
            subst hb
            refine ⟨_, s5 _ _ eD, ?_, fun q o e => by rw [upd_ne (ne_of_none e nD)]; exact s5 _ _ (s2 _ _ e), by rw [upd_same, tk, List.map_append]; rfl⟩
            rw [List.length_map, List.length_take, sizeLine_eq]
            omega
          exact fin _ rfl
        · rintro H3 ⟨s2, eD⟩
          rw [dl, List.take_length] at eD
          refine ⟨D, ks'.map (lg ks'), rfl, SqL.of (by rw [List.map_map]; exact eD), s2 _ _ el, ?_⟩
          have al : (ks'.map (lg ks')).any id = ks'.any (lg ks') := by rw [List.any_map]; rfl
          rw [al]
          have sB := back _ s2
          generalize upd H3 d' (.dK (kvs ks')) = HB at *
          have sF := hp.trans sB
          have dne : d' ≠ f := fun q => by rw [q, ef] at nd'; cases nd'
          refine ⟨_, rfl, ?_⟩
          rcases k' with ⟨ny, q⟩ | ⟨ny, q⟩
          · rw [ny]
            exact iteT ⟨_, rfl, x_read fun d0 nd0 => q d0 _ (sF.free nd0) upd_same (sF.trans (same_new nd0))⟩
          rw [ny]
          refine iteF ⟨_, rfl, _, rfl, f, F, dx, _, rfl, sF _ _ ef, TF.cl, TF.nk, by show 2 < 1000; decide, ?_⟩
          rw [put_k2]
          have nf : ∀ {q o}, o ≠ HO.ins F dx (ff d c) → HB q = some o → q ≠ f := fun {q o} h e z => by
            rw [z, sF _ _ ef] at e
            exact h (Option.some.inj e).symm
          have keep : ∀ b o, H2 b = some o → b ≠ f → upd HB f (.ins F dx (ff d' c)) b = some o := fun b o e n => by rw [upd_ne n]; exact sF _ _ e
          refine q d' _ nd' nxH ⟨⟨dx, upd_same⟩, by rw [upd_ne dne]; exact sB _ _ edP, ⟨.inl (by rw [upd_ne dne]; exact sB _ _ edP), fun e he => ?_⟩, ?_⟩ keep
          · obtain ⟨⟨dk, ek⟩, oke⟩ := katP e he
            have nq : e.2.2 ≠ f := nf (o := .ins C dk (kflds e.2.1)) (fun q => by
              injection q with q1 q2 q3
              have q4 := congrArg List.length q3
              cases q4) (sB _ _ ek)
            exact ⟨⟨dk, by rw [upd_ne nq]; exact sB _ _ ek⟩, oke⟩
          · exact keep _ _ fa.cal fun q => by
              have z := fa.cal
              rw [q, ef] at z
              cases z
end
end K26F
namespace K26F
open PySem PySem.Spec PyProof.Rows L2 Jg
local macro_rules | `(tactic| walk_at "rd1") => `(tactic| (first
  | refine ⟨_, rfl, ?_⟩
  | refine ⟨_, _, rfl, rfl, ?_⟩
  | refine ⟨_, _, rfl, ?_⟩
  | refine ⟨rfl, ?_⟩
  | (refine ⟨show (0 : Int) < _ by omega, ?_⟩)
  | (refine ⟨Or.inl ⟨by omega, by omega⟩, ?_⟩)
  | (refine ⟨Or.inr ⟨by omega, by omega⟩, ?_⟩)
  | (refine ⟨(⟨by decide, by decide, by decide⟩ : CPow _ _), ?_⟩)
  | refine Or.inl ⟨_, rfl, ?_⟩
  | refine Or.inr ⟨_, rfl, ?_⟩
  | fail "rd"))
local macro_rules | `(tactic| walk_at "rd") => `(tactic| repeat' walk_at "rd1")
def spCheck (K : PySem.W.Frag) (F C CU : Addr) : Sp := fun vs H Q E => ∃ (f d c : Addr) (y : V) (ks : Ks) (cs : List V), vs = [.ref f, y] ∧ FltAt F C H f d c ks cs ∧ WdKs ks ∧
  ((∃ z, y = .str z ∧ z ∈ ks.map (·.1) ∧ Q .non H) ∨ (NoKind K H ks y ∧ ∀ d' H', H d' = none → H' d' = some (.xd [(("name" : Str), y)]) → Same H H' → E (.ref CU) (some d') H'))
def spFChain (K : PySem.W.Frag) (F C CU : Addr) : Sp := fun vs H Q E => ∃ (f d c : Addr) (y : V) (ks : Ks) (cs : List V), vs = [.ref f, y] ∧ FltAt F C H f d c ks cs ∧ WdKs ks ∧ Fed ks ∧
  ((∃ z, y = .str z ∧ z ∈ ks.map (·.1) ∧ ∀ l H', H l = none → Same H H' → H' l = some (.lst ((chainF ks z).map V.str)) → Q (.ref l) H') ∨ (NoKind K H ks y ∧ ∀ d' H', H d' = none → H' d' = some (.xd [(("name" : Str), y)]) → Same H H' → E (.ref CU) (some d') H'))
theorem kd_no {ks : Ks} {z : Str} (c : z ∉ ks.map (·.1)) : kdOf ks z = none := List.find?_eq_none.mpr fun e he q => c (List.mem_map.mpr ⟨e, he, by simpa using q⟩)
section
variable {P : Program} {w : World} {K : PySem.W.Frag} {mg : Str → Option Value} {base : Heap} {C CI CU F : Addr}
theorem sc_Fleet_check : FnScope ["self", "name"] ["self", "name"] (defScope s_Fleet_check) := ⟨rfl, rfl, rfl, by decide +kernel, rfl, by decide +kernel, by decide +kernel⟩
theorem ok_fcheck (D : MetK K F "_check" "Fleet._check" s_Fleet_check) (T : Txt K mg C) (TF : FTx K mg F) (G_is_word : Cal P w K mg base CX0 1 "is_word" (spWord K)) (G_UnknownName : ExnB P w K mg base 1 "UnknownName" CU (spX CU "name")) : Met P w K mg base (L2.CX P w) 3 F "_check" (spCheck K F C CU) := by
  refine D.metX sc_Fleet_check (fun _ _ _ _ _ _ us hl => match us, hl with | [_, _], _ => rfl) (fun vs H Q E h => ?_) fun f cdv A outer s H vs Q E hr h => ?_
  · obtain ⟨f, d, c, y, ks, cs, rfl, _⟩ := h; rfl
  · obtain ⟨f, d, c, y, ks, cs, rfl, fa, wd, h⟩ := h
    have hu1 : (A.deeper (envOfC "Fleet._check" (defScope s_Fleet_check) s.heap.objs.size f cdv)).units + 1 < cLine := Nat.lt_of_le_of_lt (Nat.add_le_add_left (by decide : 1 ≤ 64) _) hr.units
    obtain ⟨dx, ef⟩ := id fa.at_
    have kdz : ∀ y : Str, DGet H d (V.str y) (valV (kvs ks) (Sum.inr y)) := fun y => .inl ⟨kvs ks, Sum.inr y, .inl fa.ed, rfl, rfl⟩
    refine ⟨_, (pss_one (ps_if (PW.pt (pw_or (pt_not (pt_val (pe_c G_is_word hr (by decide) rfl (pa_cons (pv 1) pa_nil)))) (pw_or1 (pt_cmp (pc_dnotin hu1 (pv 1) (pe_fld (pv 0) rfl)))))) (pss_one (ps_raise rfl (takes_of rfl rfl rfl rfl) (pmk_b G_UnknownName hr (by decide) rfl (pa_cons (pv 1) pa_nil)))) pss_nil)), ?_⟩
    rcases h with ⟨z, rfl, mem, q⟩ | ⟨⟨z, rfl, hz, no⟩ | ⟨t, ty, kt⟩, k⟩
    · obtain ⟨e1, k1, m1, z1⟩ := kd_mem mem
      refine ⟨_, rfl, .str z, rfl, .inl ⟨z, rfl, z1 ▸ (wd e1 m1).1, _, rfl, ?_⟩⟩
      rw [show wordB z = true from z1 ▸ (wd e1 m1).2]
      refine iteF ⟨_, rfl, _, rfl, f, F, dx, _, _, rfl, ef, TF.cl, TF.nk, get_k _ _, d, _, rfl, kdz z, _, rfl, ?_⟩
      rw [kd_val, k1]
      exact iteF q
    · refine ⟨_, rfl, .str z, rfl, .inl ⟨z, rfl, hz, _, rfl, ?_⟩⟩
      cases cw : wordB z with
      | false => exact iteT (iteT ⟨_, rfl, x_read fun d nd => k d _ nd upd_same (same_new nd)⟩)
      | true =>
        refine iteF ⟨_, rfl, _, rfl, f, F, dx, _, _, rfl, ef, TF.cl, TF.nk, get_k _ _, d, _, rfl, kdz z, _, rfl, ?_⟩
        rw [kd_val, kd_no (no cw)]
        exact iteT ⟨_, rfl, x_read fun d nd => k d _ nd upd_same (same_new nd)⟩
    · exact ⟨_, rfl, y, rfl, .inr ⟨t, ty _ (.refl _), kt, _, rfl, iteT (iteT ⟨_, rfl, x_read fun d nd => k d _ nd upd_same (same_new nd)⟩)⟩⟩
theorem sc_Fleet_chain : FnScope ["self", "kind"] ["self", "kind"] (defScope s_Fleet_chain) := ⟨rfl, rfl, rfl, by decide +kernel, rfl, by decide +kernel, by decide +kernel⟩
theorem ok_fchain (D : MetK K F "chain" "Fleet.chain" s_Fleet_chain) (T : Txt K mg C) (TF : FTx K mg F) (M_check : Met P w K mg base (L2.CX P w) 3 F "_check" (spCheck K F C CU)) (G_chain_to : Cal P w K mg base CX0 3 "_chain_to" (spChain C)) : Met P w K mg base (L2.CX P w) 4 F "chain" (spFChain K F C CU) := by
  refine D.metX sc_Fleet_chain (fun _ _ _ _ _ _ us hl => match us, hl with | [_, _], _ => rfl) (fun vs H Q E h => ?_) fun f cdv A outer s H vs Q E hr h => ?_
  · obtain ⟨f, d, c, y, ks, cs, rfl, _⟩ := h; rfl
  · obtain ⟨f, d, c, y, ks, cs, rfl, fa, wd, fed, h⟩ := h
    obtain ⟨dx, ef⟩ := id fa.at_
    refine ⟨_, (pss_cons (ps_expr (pe_mS M_check TF.cl (takes_of rfl rfl rfl rfl) hr (by decide) (pv 0) (pa_cons (pv 1) pa_nil)))
      (pss_one (ps_ret (pe_c G_chain_to hr (by decide) rfl (pa_cons (pe_fld (pv 0) rfl) (pa_cons (pv 1) pa_nil)))))), ?_⟩
    rcases h with ⟨z, rfl, mem, q⟩ | ⟨no, k⟩
    · refine ⟨_, rfl, f, dx, _, rfl, ef, get_fno _ _ (by decide +kernel) (by decide +kernel), _, rfl, f, d, c, _, ks, cs, rfl, fa, wd, .inl ⟨z, rfl, mem, ?_⟩⟩
      exact ⟨_, rfl, f, F, dx, _, _, rfl, ef, TF.cl, TF.nk, get_k _ _, _, rfl, d, z, ks, rfl, fa.kds, fed, mem, q⟩
    · exact ⟨_, rfl, f, dx, _, rfl, ef, get_fno _ _ (by decide +kernel) (by decide +kernel), _, rfl, f, d, c, _, ks, cs, rfl, fa, wd, .inr ⟨no, k⟩⟩
theorem late_step (ks : Ks) (zs : List Str) (z : Str) : lateF ks (zs ++ [z]) = lateF ks zs + addZ ks z := by
  unfold lateF
  rw [List.foldl_append]
  rfl
theorem chainB_mem {ks : Ks} (fed : Fed ks) : ∀ (n : Nat) (acc : List Str) (so : Option Str), (∀ y ∈ acc, y ∈ ks.map (·.1)) → (∀ y, so = some y → y ∈ ks.map (·.1)) → ∀ y ∈ chainB ks n acc so, y ∈ ks.map (·.1)
  | 0, acc, so, h, _ => h
  | n + 1, acc, none, h, _ => h
  | n + 1, acc, some z, h, h2 => by
    refine chainB_mem fed n (z :: acc) (srcOf ks z) (fun y hy => ?_) fun y e => ?_
    · rcases List.mem_cons.mp hy with q | q
      · rw [q]; exact h2 z rfl
      · exact h y q
    · unfold srcOf at e
      cases c : kdOf ks z with
      | none => rw [c] at e; cases e
      | some o =>
        rw [c] at e
        exact fed o (List.mem_of_find?_eq_some c) y e
theorem chain_mem {ks : Ks} (fed : Fed ks) {z : Str} (h : z ∈ ks.map (·.1)) : ∀ y ∈ chainF ks z, y ∈ ks.map (·.1) := by
  refine chainB_mem fed 4 [z] (srcOf ks z) (fun y hy => by rw [List.mem_singleton.mp hy]; exact h) fun y e => ?_
  obtain ⟨o, c, m, _⟩ := kd_mem h
  unfold srcOf at e
  rw [c] at e
  exact fed o m y e
def spLate (K : PySem.W.Frag) (F C CU : Addr) : Sp := fun vs H Q E => ∃ (f d c : Addr) (y : V) (ks : Ks) (cs : List V), vs = [.ref f, y] ∧ FltAt F C H f d c ks cs ∧ WdKs ks ∧ Fed ks ∧
  ((∃ z, y = .str z ∧ z ∈ ks.map (·.1) ∧ ∀ H', Same H H' → Q (.int (lateF ks (chainF ks z))) H') ∨ (NoKind K H ks y ∧ ∀ d' H', H d' = none → H' d' = some (.xd [(("name" : Str), y)]) → Same H H' → E (.ref CU) (some d') H'))
theorem sc_Fleet_lateness : FnScope ["self", "kind", "lateness", "name", "link"] ["self", "kind"] (defScope s_Fleet_lateness) := ⟨rfl, rfl, rfl, by decide +kernel, rfl, by decide +kernel, by decide +kernel⟩
theorem ok_flate (D : MetK K F "lateness" "Fleet.lateness" s_Fleet_lateness) (T : Txt K mg C) (TF : FTx K mg F) (M_chain : Met P w K mg base (L2.CX P w) 4 F "chain" (spFChain K F C CU)) (G_gap : Prp P w K mg base CX0 1 C "gap" (spPrp C fun r => .int r.g)) (G_age : Prp P w K mg base CX0 1 C "age" (spPrp C fun r => oV r.a)) : Met P w K mg base (L2.CX P w) 5 F "lateness" (spLate K F C CU) := by
  refine D.metX sc_Fleet_lateness (fun _ _ _ _ _ _ us hl => match us, hl with | [_, _], _ => rfl) (fun vs H Q E h => ?_) fun f cdv A outer s H vs Q E hr h => ?_
  · obtain ⟨f, d, c, y, ks, cs, rfl, _⟩ := h; rfl
  · obtain ⟨f, d, c, y, ks, cs, rfl, fa, wd, fed, h⟩ := h
    have hu1 : (A.deeper (envOfC "Fleet.lateness" (defScope s_Fleet_lateness) s.heap.objs.size f cdv)).units + 1 < cLine := Nat.lt_of_le_of_lt (Nat.add_le_add_left (by decide : 1 ≤ 64) _) hr.units
    obtain ⟨dx, ef⟩ := id fa.at_
    refine ⟨_, (pss_cons (ps_set (i := 2) sc_Fleet_lateness.nd rfl (Or.inl rfl) pe_int)
      (pss_cons (ps_for (passes_of rfl) rfl (pi_list (pe_mS M_chain TF.cl (takes_of rfl rfl rfl rfl) hr (by decide) (pv 0) (pa_cons (pv 1) pa_nil))) (pg_name (i := 3) sc_Fleet_lateness.nd rfl (Or.inl rfl)) (pss_cons (ps_set (i := 4) sc_Fleet_lateness.nd rfl (Or.inl rfl) (pe_dget hu1 (pe_fld (pv 0) rfl) (pv 3) (fun _ _ => rfl)))
      (pss_one (ps_if (pt_cmpR op_isN (pe_p G_age T.cl hr (by decide) (pv 4)) pe_non (nomark _)) (pss_one (ps_set (i := 2) sc_Fleet_lateness.nd rfl (Or.inl rfl) (pe_op op_sub (pe_op op_add (pv 2) (pe_p G_gap T.cl hr (by decide) (pv 4))) pe_int))) (pss_one (ps_set (i := 2) sc_Fleet_lateness.nd rfl (Or.inl rfl) (pe_op op_sub (pe_op op_add (pe_op op_add (pv 2) (pe_op op_mul pe_int (pe_p G_gap T.cl hr (by decide) (pv 4)))) (pe_p G_age T.cl hr (by decide) (pv 4))) pe_int)))))))
      (pss_one (ps_ret (pv 2))))), ?_⟩
    rcases h with ⟨z, rfl, mem, q⟩ | ⟨no, k⟩
    · refine ⟨_, rfl, f, dx, _, rfl, ef, get_fno _ _ (by decide +kernel) (by decide +kernel), _, rfl, f, d, c, _, ks, cs, rfl, fa, wd, fed, .inl ⟨z, rfl, mem, fun l H1 nl s1 el => ?_⟩⟩
      refine ⟨l, rfl, ⟨_, SqL.of el⟩, for_list (K := K) (a := l) (xs := (chainF ks z).map V.str) (fun i sg H' => ∃ v3 v4 : Option V, sg = [some (.ref f), some (.str z), some (.int (lateF ks ((chainF ks z).take i))), v3, v4] ∧ Same H1 H') ?_ ?_ ?_ ?_⟩
      · exact ⟨none, none, rfl, Same.refl _⟩
      · rintro i σ H' _ ⟨v3, v4, rfl, s2⟩
        exact SqL.of (s2 _ _ el)
      · rintro i x σ H' ex ⟨v3, v4, rfl, s2⟩
        rw [List.getElem?_map] at ex
        cases ey : (chainF ks z)[i]? with
        | none => rw [ey] at ex; cases ex
        | some y =>
          rw [ey] at ex
          cases ex
          have sH := s1.trans s2
          have faH := fa.keep sH
          obtain ⟨e1, k1, m1, z1⟩ := kd_mem (chain_mem fed mem y (List.mem_of_getElem? ey))
          obtain ⟨⟨dk, ek⟩, ok1⟩ := faH.kds.2 e1 m1
          have kk : KAt C H' e1.2.2 e1.2.1 := ⟨dk, ek⟩
          have tk : (chainF ks z).take (i + 1) = (chainF ks z).take i ++ [y] := by rw [List.take_succ, ey]; rfl
          have az : addZ ks y = addK e1.2.1 := by unfold addZ; rw [k1]
          have fin : ∀ t : Int, t = lateF ks ((chainF ks z).take i) + addK e1.2.1 → V.int t = V.int (lateF ks ((chainF ks z).take (i + 1))) := fun t e => by rw [tk, late_step, az, e]
          refine ⟨_, rfl, f, F, dx, _, _, rfl, sH _ _ ef, TF.cl, TF.nk, get_k _ _, _, rfl, d, .ref e1.2.2, rfl, dget faH.kds k1, ?_⟩
          refine ⟨_, rfl, e1.2.2, dk, _, rfl, ek, e1.2.2, e1.2.1, rfl, kk, rfl, _, rfl, ?_⟩
          unfold addK at fin
          cases ea : e1.2.1.a with
          | none =>
            rw [ea] at fin
            refine iteTe (show decide (oV e1.2.1.a = V.non) = true by rw [ea]; rfl) ⟨_, rfl, _, rfl, e1.2.2, dk, _, rfl, ek, e1.2.2, e1.2.1, rfl, kk, _, _, rfl, rfl, _, _, rfl, rfl, ?_⟩
            exact ⟨some (V.str y), some (V.ref e1.2.2), by rw [← fin (lateF ks ((chainF ks z).take i) + e1.2.1.g - 1) (by show _ = _ + (e1.2.1.g - 1); omega)]; rfl, s2⟩
          | some a =>
            rw [ea] at fin
            refine iteFe (show decide (oV e1.2.1.a = V.non) = false by rw [ea]; rfl) ⟨_, rfl, _, rfl, e1.2.2, dk, _, rfl, ek, e1.2.2, e1.2.1, rfl, kk, 2, e1.2.1.g, rfl, rfl, .inl ⟨by decide, by decide⟩, _, _, rfl, rfl, _, rfl, e1.2.2, dk, _, rfl, ek, e1.2.2, e1.2.1, rfl, kk, lateF ks ((chainF ks z).take i) + 2 * e1.2.1.g, a, rfl, (show oV e1.2.1.a = .int a by rw [ea]; rfl), _, _, rfl, rfl, ?_⟩
            exact ⟨some (V.str y), some (V.ref e1.2.2), by rw [← fin (lateF ks ((chainF ks z).take i) + 2 * e1.2.1.g + a - 2) (by show _ = _ + (2 * e1.2.1.g + a - 2); omega)]; rfl, s2⟩
      · rintro σ H' ⟨v3, v4, rfl, s2⟩
        rw [List.length_map, List.take_length]
        exact ⟨_, rfl, q _ (s1.trans s2)⟩
    · exact ⟨_, rfl, f, dx, _, rfl, ef, get_fno _ _ (by decide +kernel) (by decide +kernel), _, rfl, f, d, c, _, ks, cs, rfl, fa, wd, fed, .inr ⟨no, k⟩⟩
end
end K26F
namespace K26F
open PySem PySem.Spec PyProof.Rows L2 Jg
local macro_rules | `(tactic| walk_at "rd1") => `(tactic| (first
  | refine ⟨_, rfl, ?_⟩
  | refine ⟨_, _, rfl, rfl, ?_⟩
  | refine ⟨_, _, rfl, ?_⟩
  | refine ⟨rfl, ?_⟩
  | (refine ⟨show (0 : Int) < _ by omega, ?_⟩)
  | (refine ⟨Or.inl ⟨by omega, by omega⟩, ?_⟩)
  | (refine ⟨Or.inr ⟨by omega, by omega⟩, ?_⟩)
  | (refine ⟨(⟨by decide, by decide, by decide⟩ : CPow _ _), ?_⟩)
  | refine Or.inl ⟨_, rfl, ?_⟩
  | refine Or.inr ⟨_, rfl, ?_⟩
  | fail "rd"))
local macro_rules | `(tactic| walk_at "rd") => `(tactic| repeat' walk_at "rd1")
def spCalls (F C : Addr) : Sp := fun vs H Q _ => ∃ (f d c : Addr) (ks : Ks) (cs : List V), vs = [.ref f] ∧ FltAt F C H f d c ks cs ∧ ∀ l, H l = none → Q (.ref l) (upd H l (.lst cs))
def spAdd (K : PySem.W.Frag) (F C CA CU CM CO : Addr) : Sp := fun vs H Q E => ∃ (f d c : Addr) (y0 y1 y2 y3 : V) (ks : Ks) (cs : List V), vs = [.ref f, y0, y1, y2, y3] ∧ FltAt F C H f d c ks cs ∧ WdKs ks ∧
  ((BadW K H y0 ∧ ∀ d' H', H d' = none → H' d' = some (.xd [(("value" : Str), y0)]) → Same H H' → E (.ref CA) (some d') H') ∨ ∃ z0, y0 = .str z0 ∧ z0.length ≤ sizeLine ∧ wordB z0 = true ∧
  ((NoKind K H ks y1 ∧ ∀ d' H', H d' = none → H' d' = some (.xd [(("name" : Str), y1)]) → Same H H' → E (.ref CU) (some d') H') ∨ ∃ z1, y1 = .str z1 ∧ z1 ∈ ks.map (·.1) ∧
  ((NoKind K H ks y2 ∧ ∀ d' H', H d' = none → H' d' = some (.xd [(("name" : Str), y2)]) → Same H H' → E (.ref CU) (some d') H') ∨ ∃ z2, y2 = .str z2 ∧ z2 ∈ ks.map (·.1) ∧
  ((BadR K H 0 L y3 ∧ ∀ d' H', H d' = none → H' d' = some (.xd [(("value" : Str), y3)]) → Same H H' → E (.ref CM) (some d') H') ∨ ∃ i, y3 = .int i ∧ 0 ≤ i ∧ i ≤ L ∧
  ((cs.length = 6 ∧ ∀ d' H', H d' = none → H' d' = some (.xd [(("limit" : Str), .int 6)]) → Same H H' → E (.ref CO) (some d') H') ∨
   (cs.length < 6 ∧ ∀ t, H t = none → Q (.int cs.length) (upd (upd H t (.tup (callT z0 z1 z2 i))) c (.lst (cs ++ [.ref t])))))))))
section
variable {P : Program} {w : World} {K : PySem.W.Frag} {mg : Str → Option Value} {base : Heap} {C CA CU CM CO FC : Addr}
theorem sc_InvalidCall_init : FnScope ["self", "value"] ["self", "value"] (defScope s_InvalidCall_init) := ⟨rfl, rfl, rfl, by decide +kernel, rfl, by decide +kernel, by decide +kernel⟩
theorem ok_cinit (D : ExnQ K mg "InvalidCall" CA "InvalidCall.__init__" s_InvalidCall_init "value") : ExnB P w K mg base 1 "InvalidCall" CA (spX CA "value") := by
  obtain ⟨fI, fd, F, a, ty⟩ := D.ini
  refine ⟨D.mg_, D.ovr, fI, fd, _, F.ok sc_InvalidCall_init (fun vs H Q E h => ?_) (fun cdv A outer s H vs Q E hr h => ?_), a, ty, F.binds (fun _ _ _ _ _ _ us hl => match us, hl with | [_, _], _ => rfl)⟩
  · obtain ⟨a, y, rfl, _⟩ := h; rfl
  · obtain ⟨a, y, rfl, ha, k⟩ := h
    exact ⟨_, (pss_one (ps_keep (pv 0) (pv 1))), _, rfl, _, rfl, a, CA, rfl, D.ovr, D.no, ha, fun dx n e => k dx n e⟩
theorem sc_InvalidMoment_init : FnScope ["self", "value"] ["self", "value"] (defScope s_InvalidMoment_init) := ⟨rfl, rfl, rfl, by decide +kernel, rfl, by decide +kernel, by decide +kernel⟩
theorem ok_minit (D : ExnQ K mg "InvalidMoment" CM "InvalidMoment.__init__" s_InvalidMoment_init "value") : ExnB P w K mg base 1 "InvalidMoment" CM (spX CM "value") := by
  obtain ⟨fI, fd, F, a, ty⟩ := D.ini
  refine ⟨D.mg_, D.ovr, fI, fd, _, F.ok sc_InvalidMoment_init (fun vs H Q E h => ?_) (fun cdv A outer s H vs Q E hr h => ?_), a, ty, F.binds (fun _ _ _ _ _ _ us hl => match us, hl with | [_, _], _ => rfl)⟩
  · obtain ⟨a, y, rfl, _⟩ := h; rfl
  · obtain ⟨a, y, rfl, ha, k⟩ := h
    exact ⟨_, (pss_one (ps_keep (pv 0) (pv 1))), _, rfl, _, rfl, a, CM, rfl, D.ovr, D.no, ha, fun dx n e => k dx n e⟩
theorem sc_Fleet_calls : FnScope ["self"] ["self"] (defScope s_Fleet_calls) := ⟨rfl, rfl, rfl, by decide +kernel, rfl, by decide +kernel, by decide +kernel⟩
theorem ok_fcalls (D : MetK K FC "calls" "Fleet.calls" s_Fleet_calls) (T : Txt K mg C) (TF : FTx K mg FC) : Met P w K mg base CX0 1 FC "calls" (spCalls FC C) := by
  refine D.met sc_Fleet_calls (fun _ _ _ _ _ _ us hl => match us, hl with | [_], _ => rfl) (fun vs H Q E h => ?_) fun f cdv A outer s H vs Q E hr h => ?_
  · obtain ⟨f, d, c, ks, cs, rfl, _⟩ := h; rfl
  · obtain ⟨f, d, c, ks, cs, rfl, fa, k⟩ := h
    obtain ⟨dx, ef⟩ := id fa.at_
    refine ⟨_, (pss_one (ps_ret (pe_callTy (r := rListOf K) cr_listOf (by rfl) T.b_list (by decide +kernel) (pa_cons (pe_fld (pv 0) rfl) pa_nil)))), ?_⟩
    exact ⟨_, rfl, f, FC, dx, _, _, rfl, ef, TF.cl, TF.nc, get_c _ _, c, cs, rfl, .inl (SqL.of fa.cal), fun l nl => k l nl⟩
theorem sc_Fleet_add_call : FnScope ["self", "role", "client", "server", "life"] ["self", "role", "client", "server", "life"] (defScope s_Fleet_add_call) := ⟨rfl, rfl, rfl, by decide +kernel, rfl, by decide +kernel, by decide +kernel⟩
theorem body_add (T : Txt K mg C) (T4 : TxM K mg) (TF : FTx K mg FC) (M_check : Met P w K mg base (L2.CX P w) 3 FC "_check" (spCheck K FC C CU)) (G_is_word : Cal P w K mg base CX0 1 "is_word" (spWord K)) (G_is_between : Cal P w K mg base CX0 2 "is_between" (spBtwn K)) (G_InvalidCall : ExnB P w K mg base 1 "InvalidCall" CA (spX CA "value")) (G_InvalidMoment : ExnB P w K mg base 1 "InvalidMoment" CM (spX CM "value")) (G_LimitExceeded : ExnB P w K mg base 1 "LimitExceeded" CO (spX CO "limit"))
    (ff : Addr) : BodyX P w K mg base ["self", "role", "client", "server", "life"] "Fleet.add_call" s_Fleet_add_call ff 4 (spAdd K FC C CA CU CM CO) := by
  intro cdv A outer s H vs Q E hr h
  obtain ⟨f, d, c, y0, y1, y2, y3, ks, cs, rfl, fa, wd, h⟩ := h
  refine ⟨_, (pss_cons (ps_if (pt_not (pt_val (pe_c G_is_word hr (by decide) rfl (pa_cons (pv 1) pa_nil)))) (pss_one (ps_raise rfl (takes_of rfl rfl rfl rfl) (pmk_b G_InvalidCall hr (by decide) rfl (pa_cons (pv 1) pa_nil)))) pss_nil)
      (pss_cons (ps_expr (pe_mS M_check TF.cl (takes_of rfl rfl rfl rfl) hr (by decide) (pv 0) (pa_cons (pv 2) pa_nil)))
      (pss_cons (ps_expr (pe_mS M_check TF.cl (takes_of rfl rfl rfl rfl) hr (by decide) (pv 0) (pa_cons (pv 3) pa_nil)))
      (pss_cons (ps_if (pt_not (pt_val (pe_c G_is_between hr (by decide) rfl (pa_cons (pv 4) (pa_cons pe_int (pa_cons (pe_gc rfl T.gLONGEST) pa_nil)))))) (pss_one (ps_raise rfl (takes_of rfl rfl rfl rfl) (pmk_b G_InvalidMoment hr (by decide) rfl (pa_cons (pv 4) pa_nil)))) pss_nil)
      (pss_cons (ps_if (pt_cmpR op_eq (pe_callB (r := rLenL K) (call_lenK rfl) (by rfl) T.b_len (by decide +kernel) (pa_cons (pe_fld (pv 0) rfl) pa_nil)) (pe_gc rfl T4.gMOST_CALLS) (nomark _)) (pss_one (ps_raise rfl (takes_of rfl rfl rfl rfl) (pmk_b G_LimitExceeded hr (by decide) rfl (pa_cons (pe_gc rfl T4.gMOST_CALLS) pa_nil)))) pss_nil)
      (pss_cons (ps_expr (pe_bm F.plainAttrs_list F.slot_list_append F.type_list_append mt_append (pe_fld (pv 0) rfl) (pa_cons (pe_tup (pa_cons (pv 1) (pa_cons (pv 2) (pa_cons (pv 3) (pa_cons (pv 4) pa_nil))))) pa_nil)))
      (pss_one (ps_ret (pe_op op_sub (pe_callB (r := rLenL K) (call_lenK rfl) (by rfl) T.b_len (by decide +kernel) (pa_cons (pe_fld (pv 0) rfl) pa_nil)) pe_int))))))))), ?_⟩
  obtain ⟨dx, ef⟩ := id fa.at_
  have gf : ∀ {m : Str}, (m == ("_kinds" : Str)) = false → (m == ("_calls" : Str)) = false → (K26F.ff d c).lookup m = none := fun h1 h2 => get_fno d c h1 h2
  rcases h with ⟨bad, k⟩ | ⟨z0, rfl, hz0, wz0, h⟩
  · rcases bad with ⟨z, rfl, hz, wz⟩ | ⟨t, ty, kt⟩
    · refine ⟨_, rfl, .str z, rfl, .inl ⟨z, rfl, hz, _, rfl, ?_⟩⟩
      rw [wz]
      exact iteT ⟨_, rfl, x_read fun d nd => k d _ nd upd_same (same_new nd)⟩
    · exact ⟨_, rfl, y0, rfl, .inr ⟨t, ty _ (.refl _), kt, _, rfl, iteT ⟨_, rfl, x_read fun d nd => k d _ nd upd_same (same_new nd)⟩⟩⟩
  refine ⟨_, rfl, .str z0, rfl, .inl ⟨z0, rfl, hz0, _, rfl, ?_⟩⟩
  rw [wz0]
  refine iteF ?_
  rcases h with ⟨bad, k⟩ | ⟨z1, rfl, m1, h⟩
  · exact ⟨_, rfl, f, dx, _, rfl, ef, get_fno _ _ (by decide +kernel) (by decide +kernel), _, rfl, f, d, c, _, ks, cs, rfl, fa, wd, .inr ⟨bad, k⟩⟩
  refine ⟨_, rfl, f, dx, _, rfl, ef, get_fno _ _ (by decide +kernel) (by decide +kernel), _, rfl, f, d, c, _, ks, cs, rfl, fa, wd, .inl ⟨z1, rfl, m1, ?_⟩⟩
  rcases h with ⟨bad, k⟩ | ⟨z2, rfl, m2, h⟩
  · exact ⟨_, rfl, f, dx, _, rfl, ef, get_fno _ _ (by decide +kernel) (by decide +kernel), _, rfl, f, d, c, _, ks, cs, rfl, fa, wd, .inr ⟨bad, k⟩⟩
  refine ⟨_, rfl, f, dx, _, rfl, ef, get_fno _ _ (by decide +kernel) (by decide +kernel), _, rfl, f, d, c, _, ks, cs, rfl, fa, wd, .inl ⟨z2, rfl, m2, ?_⟩⟩
  rcases h with ⟨bad, k⟩ | ⟨i, rfl, i0, iL, h⟩
  · rcases bad with ⟨i, rfl, e⟩ | no
    · refine ⟨_, rfl, .int i, 0, L, rfl, .inl ⟨i, rfl, _, rfl, ?_⟩⟩
      rw [e]
      exact iteT ⟨_, rfl, x_read fun d nd => k d _ nd upd_same (same_new nd)⟩
    · exact ⟨_, rfl, y3, 0, L, rfl, .inr ⟨no, _, rfl, iteT ⟨_, rfl, x_read fun d nd => k d _ nd upd_same (same_new nd)⟩⟩⟩
  refine ⟨_, rfl, .int i, 0, L, rfl, .inl ⟨i, rfl, _, rfl, ?_⟩⟩
  rw [decide_eq_true i0, decide_eq_true iL]
  refine iteF ?_
  have ec := fa.cal
  have cf : c ≠ f := fun q => by rw [q, ef] at ec; cases ec
  refine ⟨_, rfl, f, FC, dx, _, _, rfl, ef, TF.cl, TF.nc, get_c _ _, c, cs, rfl, SqL.of ec, rfl, _, rfl, ?_⟩
  rcases h with ⟨l6, k⟩ | ⟨l6, k⟩
  · exact iteTe (show decide (V.int (cs.length : Int) = V.int 6) = true from decide_eq_true (by rw [l6]; rfl)) (x_read fun d nd => k d _ nd upd_same (same_new nd))
  · refine iteFe (show decide (V.int (cs.length : Int) = V.int 6) = false from decide_eq_false fun q => by injection q with q; omega) ?_
    refine ⟨_, rfl, f, FC, dx, _, _, rfl, ef, TF.cl, TF.nc, get_c _ _, .inl ⟨rfl, _, .inl (.inl ec)⟩, _, rfl, _, rfl, _, rfl, _, rfl, (by show 4 ≤ sizeLine; decide), fun t nt => ?_⟩
    have tc : t ≠ c := fun q => by rw [q, ec] at nt; cases nt
    have ec1 := (same_new (o := .tup (callT z0 z1 z2 i)) nt) _ _ ec
    have ef1 := (same_new (o := .tup (callT z0 z1 z2 i)) nt) _ _ ef
    refine ⟨c, cs, _, rfl, rfl, ec1, by rw [sizeLine_eq]; omega, ?_⟩
    refine ⟨_, rfl, f, FC, dx, _, _, rfl, by rw [upd_ne cf.symm]; exact ef1, TF.cl, TF.nc, get_c _ _, c, _, rfl, SqL.of upd_same, _, _, rfl, rfl, ?_⟩
    show Q (.int ((((cs ++ [V.ref t]).length : Nat) : Int) - 1)) _
    rw [show (((cs ++ [V.ref t]).length : Nat) : Int) - 1 = (cs.length : Int) by rw [List.length_append]; show ((cs.length + 1 : Nat) : Int) - 1 = _; omega]
    exact k t nt
end
end K26F
namespace K26F
open PySem PySem.Spec PyProof.Rows L2 Jg
local macro_rules | `(tactic| walk_at "rd1") => `(tactic| (first
  | refine ⟨_, rfl, ?_⟩
  | refine ⟨_, _, rfl, rfl, ?_⟩
  | refine ⟨_, _, rfl, ?_⟩
  | refine ⟨rfl, ?_⟩
  | (refine ⟨show (0 : Int) < _ by omega, ?_⟩)
  | (refine ⟨Or.inl ⟨by omega, by omega⟩, ?_⟩)
  | (refine ⟨Or.inr ⟨by omega, by omega⟩, ?_⟩)
  | (refine ⟨(⟨by decide, by decide, by decide⟩ : CPow _ _), ?_⟩)
  | refine Or.inl ⟨_, rfl, ?_⟩
  | refine Or.inr ⟨_, rfl, ?_⟩
  | fail "rd"))
local macro_rules | `(tactic| walk_at "rd") => `(tactic| repeat' walk_at "rd1")
def spGet (K : PySem.W.Frag) (F C CU : Addr) : Sp := fun vs H Q E => ∃ (f d c : Addr) (y : V) (ks : Ks) (cs : List V), vs = [.ref f, y] ∧ FltAt F C H f d c ks cs ∧ WdKs ks ∧
  ((∃ z e, y = .str z ∧ kdOf ks z = some e ∧ ∀ x H', H x = none → Same H H' → KAt C H' x e.2.1 → Q (.ref x) H') ∨ (NoKind K H ks y ∧ ∀ d' H', H d' = none → H' d' = some (.xd [(("name" : Str), y)]) → Same H H' → E (.ref CU) (some d') H'))
section
variable {P : Program} {w : World} {K : PySem.W.Frag} {mg : Str → Option Value} {base : Heap} {C CI CU F : Addr}
theorem sc_Fleet_getitem : FnScope ["self", "at"] ["self", "at"] (defScope s_Fleet_getitem) := ⟨rfl, rfl, rfl, by decide +kernel, rfl, by decide +kernel, by decide +kernel⟩
theorem ok_fget (D : MetK K F "__getitem__" "Fleet.__getitem__" s_Fleet_getitem) (T : Txt K mg C) (TF : FTx K mg F) (M_check : Met P w K mg base (L2.CX P w) 3 F "_check" (spCheck K F C CU)) (G_copied : Cal P w K mg base CX0 7 "_copied" (spCopied C)) : Met P w K mg base (L2.CX P w) 8 F "__getitem__" (spGet K F C CU) := by
  refine D.metX sc_Fleet_getitem (fun _ _ _ _ _ _ us hl => match us, hl with | [_, _], _ => rfl) (fun vs H Q E h => ?_) fun f cdv A outer s H vs Q E hr h => ?_
  · obtain ⟨f, d, c, y, ks, cs, rfl, _⟩ := h; rfl
  · obtain ⟨f, d, c, y, ks, cs, rfl, fa, wd, h⟩ := h
    have hu1 : (A.deeper (envOfC "Fleet.__getitem__" (defScope s_Fleet_getitem) s.heap.objs.size f cdv)).units + 1 < cLine := Nat.lt_of_le_of_lt (Nat.add_le_add_left (by decide : 1 ≤ 64) _) hr.units
    obtain ⟨dx, ef⟩ := id fa.at_
    refine ⟨_, (pss_cons (ps_expr (pe_mS M_check TF.cl (takes_of rfl rfl rfl rfl) hr (by decide) (pv 0) (pa_cons (pv 1) pa_nil)))
      (pss_one (ps_ret (pe_c G_copied hr (by decide) rfl (pa_cons (pe_dget hu1 (pe_fld (pv 0) rfl) (pv 1) (fun _ _ => rfl)) pa_nil))))), ?_⟩
    rcases h with ⟨z, e, rfl, ke, q⟩ | ⟨no, k⟩
    · have me := List.mem_of_find?_eq_some ke
      have ze : e.1 = z := by simpa using List.find?_some ke
      refine ⟨_, rfl, f, dx, _, rfl, ef, get_fno _ _ (by decide +kernel) (by decide +kernel), _, rfl, f, d, c, _, ks, cs, rfl, fa, wd, .inl ⟨z, rfl, List.mem_map.mpr ⟨e, me, ze⟩, ?_⟩⟩
      exact ⟨_, rfl, f, F, dx, _, _, rfl, ef, TF.cl, TF.nk, get_k _ _, _, rfl, d, .ref e.2.2, rfl, dget fa.kds ke, e.2.2, e.2.1, rfl, (fa.kds.2 e me).1, (fa.kds.2 e me).2, q⟩
    · exact ⟨_, rfl, f, dx, _, rfl, ef, get_fno _ _ (by decide +kernel) (by decide +kernel), _, rfl, f, d, c, _, ks, cs, rfl, fa, wd, .inr ⟨no, k⟩⟩
end
end K26F
namespace K26R
open PySem PySem.Spec PyProof.Rows L2 Jg
local macro_rules | `(tactic| walk_at "rd1") => `(tactic| (first
  | refine ⟨_, rfl, ?_⟩
  | refine ⟨_, _, rfl, rfl, ?_⟩
  | refine ⟨_, _, rfl, ?_⟩
  | refine ⟨rfl, ?_⟩
  | (refine ⟨show (0 : Int) < _ by omega, ?_⟩)
  | (refine ⟨Or.inl ⟨by omega, by omega⟩, ?_⟩)
  | (refine ⟨Or.inr ⟨by omega, by omega⟩, ?_⟩)
  | (refine ⟨(⟨by decide, by decide, by decide⟩ : CPow _ _), ?_⟩)
  | refine Or.inl ⟨_, rfl, ?_⟩
  | refine Or.inr ⟨_, rfl, ?_⟩
  | fail "rd"))
local macro_rules | `(tactic| walk_at "rd") => `(tactic| repeat' walk_at "rd1")
theorem klh : ¬ (("_low" : Str) = "_high") := by decide +kernel
theorem put_hi (lo hi : Int) : putF "_high" (.int hi) [(("_low" : Str), V.int lo)] = flds (lo, hi) := by
  show (if ("_low" : Str) = "_high" then _ else _) = _
  rw [if_neg klh]; rfl
theorem put_lo2 (r : Int × Int) (z : Int) : putF "_low" (.int z) (flds r) = flds (z, r.2) := by
  show (if ("_low" : Str) = "_low" then _ else _) = _
  rw [if_pos rfl]; rfl
theorem put_hi2 (r : Int × Int) (z : Int) : putF "_high" (.int z) (flds r) = flds (r.1, z) := by
  show (if ("_low" : Str) = "_high" then _ else _ :: (if ("_high" : Str) = "_high" then _ else _)) = _
  rw [if_neg klh, if_pos rfl]; rfl
theorem get_lo (r : Int × Int) : (flds r).lookup ("_low" : Str) = some (.int r.1) := by
  have e : ((("_low" : Str)) == ("_low" : Str)) = true := by decide +kernel
  simp only [flds, List.lookup, e]
theorem get_hi (r : Int × Int) : (flds r).lookup ("_high" : Str) = some (.int r.2) := by
  have e1 : ((("_high" : Str)) == ("_low" : Str)) = false := by decide +kernel
  have e2 : ((("_high" : Str)) == ("_high" : Str)) = true := by decide +kernel
  simp only [flds, List.lookup, e1, e2]
def oV : Option Int → V
  | none => .non
  | some i => .int i
/-- the pair that __init__ keeps -/
def mkR (f : Int) : Option Int → Int × Int
  | none => (f, B)
  | some l => if l < f then (-B, -B - 1) else (f, l)
def BndO : Option Int → Prop
  | none => True
  | some i => Bnd i
section
variable {K : PySem.W.Frag} {mg : Str → Option Value} {C : Addr}
end
abbrev kit (K : PySem.W.Frag) (t : Value) (n : String) (b : Bool) : Prop := PySem.W.kitOne K t (.type n) = some b
def spIsInt (K : PySem.W.Frag) : Sp := fun vs H Q _ => ∃ x t b1 b2, vs = [x] ∧ TyX K H x t ∧ kit K t "int" b1 ∧ (b1 = true → kit K t "bool" b2) ∧ Q (.bl (b1 && !b2)) H
theorem kii {K : PySem.W.Frag} : kit K (.type "int") "int" true := kit_ty (by decide +kernel)
theorem kib {K : PySem.W.Frag} : kit K (.type "int") "bool" false := kit_ty (by decide +kernel)
/-- of an integer, or of a value that is none -/
def spBnd (K : PySem.W.Frag) : Sp := fun vs H Q _ => (∃ i, vs = [.int i] ∧ Q (.bl (decide (-B < i) && decide (i < B))) H) ∨
  (∃ x t b1 b2, vs = [x] ∧ TyX K H x t ∧ kit K t "int" b1 ∧ (b1 = true → kit K t "bool" b2) ∧ (b1 && !b2) = false ∧ Q (.bl false) H)
def spInit (C : Addr) : Sp := fun vs H Q _ => ∃ x dx f l, vs = [.ref x, .int f, oV l] ∧ H x = some (.ins C dx []) ∧ Bnd f ∧ BndO l ∧
  ∀ H', RAt C H' x (mkR f l) → (∀ b o, H b = some o → b ≠ x → H' b = some o) → Q .non H'
section
variable {P : Program} {w : World} {K : PySem.W.Frag} {mg : Str → Option Value} {base : Heap} {C : Addr}
theorem sc_is_integer : FnScope ["value"] ["value"] (defScope s_is_integer) := ⟨rfl, rfl, rfl, by decide +kernel, rfl, by decide +kernel, by decide +kernel⟩
theorem ok_is_integer (D : DefK K mg "is_integer" s_is_integer) (T : Txt K mg C) : Cal P w K mg base CX0 1 "is_integer" (spIsInt K) := by
  refine D.cal sc_is_integer (fun _ _ _ _ _ _ us hl => match us, hl with | [_], _ => rfl) (fun vs H Q E h => ?_) fun f cdv A outer s H vs Q E hr h => ?_
  · obtain ⟨x, t, b1, b2, rfl, _⟩ := h; rfl
  · obtain ⟨x, t, b1, b2, rfl, ty, k1, k2, q⟩ := h
    refine ⟨_, (pss_one (ps_ret (pe_and (pe_callB call_isi (by rfl) T.b_isinstance (by decide +kernel) (pa_cons (pv 0) (pa_cons (pe_ty (n := "int") (by rfl) T.b_int (by decide +kernel)) pa_nil))) (pe_one (pe_not (pe_callB call_isi (by rfl) T.b_isinstance (by decide +kernel) (pa_cons (pv 0) (pa_cons (pe_ty (n := "bool") (by rfl) T.b_bool (by decide +kernel)) pa_nil)))))))), ?_⟩
    refine ⟨_, rfl, x, .ty "int", t, _, b1, rfl, .ty "int", ty, k1, b1, rfl, ?_⟩
    cases b1 with
    | false => exact iteF q
    | true => exact iteT ⟨_, rfl, x, .ty "bool", t, _, b2, rfl, .ty "bool", ty, k2 rfl, b2, rfl, q⟩
theorem sc_is_bounded : FnScope ["value"] ["value"] (defScope s_is_bounded) := ⟨rfl, rfl, rfl, by decide +kernel, rfl, by decide +kernel, by decide +kernel⟩
theorem ok_is_bounded (D : DefK K mg "is_bounded" s_is_bounded) (T : Txt K mg C) (G_is_integer : Cal P w K mg base CX0 1 "is_integer" (spIsInt K)) : Cal P w K mg base CX0 2 "is_bounded" (spBnd K) := by
  refine D.cal sc_is_bounded (fun _ _ _ _ _ _ us hl => match us, hl with | [_], _ => rfl) (fun vs H Q E h => ?_) fun f cdv A outer s H vs Q E hr h => ?_
  · rcases h with ⟨i, rfl, _⟩ | ⟨x, t, b1, b2, rfl, _⟩ <;> rfl
  · refine ⟨_, (pss_one (ps_ret (pe_and (pe_c G_is_integer hr (by decide) rfl (pa_cons (pv 0) pa_nil)) (pe_one (pe_chain op_lt op_lt (pe_un un_neg (pe_gc rfl T.gBOUND)) (pv 0) (pe_gc rfl T.gBOUND)))))), ?_⟩
    rcases h with ⟨i, rfl, q⟩ | ⟨x, t, b1, b2, rfl, ty, k1, k2, e, q⟩
    · refine ⟨_, rfl, .int i, _, true, false, rfl, .base (.int i), kii, fun _ => kib, true, rfl, iteT ?_⟩
      refine ⟨B, rfl, _, rfl, -B, i, rfl, rfl, _, rfl, ?_⟩
      by_cases c : -B < i
      · rw [decide_eq_true c]
        refine iteT ?_
        rw [decide_eq_true c] at q
        exact ⟨i, B, rfl, rfl, q⟩
      · rw [decide_eq_false c]
        refine iteF ?_
        rw [decide_eq_false c] at q
        exact q
    · refine ⟨_, rfl, x, t, b1, b2, rfl, ty, k1, k2, _, rfl, ?_⟩
      rw [e]
      exact iteF q
theorem sc_Range_init : FnScope ["self", "first", "last"] ["self", "first", "last"] (defScope s_Range_init) := ⟨rfl, rfl, rfl, by decide +kernel, rfl, by decide +kernel, by decide +kernel⟩
theorem ok_init (D : MetK K C "__init__" "Range.__init__" s_Range_init) (T : Txt K mg C) (G_is_bounded : Cal P w K mg base CX0 2 "is_bounded" (spBnd K)) : Met P w K mg base CX0 3 C "__init__" (spInit C) := by
  refine D.met sc_Range_init (fun _ _ _ _ _ _ us hl => match us, hl with | [_, _, _], _ => rfl) (fun vs H Q E h => ?_) fun f cdv A outer s H vs Q E hr h => ?_
  · obtain ⟨x, dx, f, l, rfl, _⟩ := h; rfl
  · obtain ⟨x, dx, f, l, rfl, hx, bf, bl, q⟩ := h
    refine ⟨_, (pss_cons (ps_if (pt_not (pt_val (pe_c G_is_bounded hr (by decide) rfl (pa_cons (pv 1) pa_nil)))) (pss_one ps_never) pss_nil)
      (pss_cons (ps_if (PW.pt (pw_and (pt_cmpR op_notN (pv 2) pe_non (nomark _)) (pw_and1 (pt_not (pt_val (pe_c G_is_bounded hr (by decide) rfl (pa_cons (pv 2) pa_nil))))))) (pss_one ps_never) pss_nil)
      (pss_cons (ps_fld (pv 0) (pv 1) rfl)
      (pss_cons (ps_fld (pv 0) (pe_ifExp (pt_cmpR op_isN (pv 2) pe_non (nomark _)) (pe_gc rfl T.gBOUND) (pv 2)) rfl)
      (pss_one (ps_if (pt_cmpR op_lt (pe_fld (pv 0) rfl) (pe_fld (pv 0) rfl) (nomark _)) (pss_cons (ps_fld (pv 0) (pe_un un_neg (pe_gc rfl T.gBOUND)) rfl)
      (pss_one (ps_fld (pv 0) (pe_op op_sub (pe_un un_neg (pe_gc rfl T.gBOUND)) pe_int) rfl))) pss_nil)))))), ?_⟩
    have bB : (decide (-B < f) && decide (f < B)) = true := by rw [decide_eq_true bf.1, decide_eq_true bf.2]; rfl
    refine ⟨_, rfl, .inl ⟨f, rfl, _, rfl, ?_⟩⟩
    rw [bB]
    refine iteF ?_
    -- last is none, or a moment too
    have go : ∀ (D : Ends) (sg : L2.St), (decide (oV l = V.non) = true ∨ ∃ i, l = some i) → True := fun _ _ _ => trivial
    have npos : (0 : Nat) < 1000 := by decide
    have one : (1 : Nat) < 1000 := by decide
    have two : (2 : Nat) < 1000 := by decide
    cases l with
    | none =>
      refine ⟨_, rfl, rfl, _, rfl, iteF ?_⟩
      refine ⟨_, rfl, _, rfl, x, C, dx, [], rfl, hx, T.cl, T.nl, npos, ?_⟩
      refine ⟨_, rfl, rfl, _, rfl, iteT ⟨_, rfl, x, C, dx, _, rfl, upd_same, T.cl, T.nh, one, ?_⟩⟩
      rw [upd_upd, show putF "_low" (V.int f) [] = [(("_low" : Str), V.int f)] from rfl, put_hi]
      refine ⟨_, rfl, x, C, dx, _, _, rfl, upd_same, T.cl, T.nh, get_hi _, _, rfl, x, C, dx, _, _, rfl, upd_same, T.cl, T.nl, get_lo _, _, _, rfl, rfl, _, rfl, ?_⟩
      have nl : ¬ B < f := by have := bf.2; omega
      rw [decide_eq_false nl]
      refine iteF (q _ ⟨dx, upd_same⟩ fun b o e n => ?_)
      rw [upd_ne n]; exact e
    | some i =>
      have bi : (decide (-B < i) && decide (i < B)) = true := by rw [decide_eq_true bl.1, decide_eq_true bl.2]; rfl
      refine ⟨_, rfl, rfl, _, rfl, iteT ⟨_, rfl, .inl ⟨i, rfl, _, rfl, ?_⟩⟩⟩
      rw [bi]
      refine iteF ?_
      refine ⟨_, rfl, _, rfl, x, C, dx, [], rfl, hx, T.cl, T.nl, npos, ?_⟩
      refine ⟨_, rfl, rfl, _, rfl, iteF ⟨_, rfl, _, rfl, x, C, dx, _, rfl, upd_same, T.cl, T.nh, one, ?_⟩⟩
      rw [upd_upd, show putF "_low" (V.int f) [] = [(("_low" : Str), V.int f)] from rfl, show oV (some i) = V.int i from rfl, put_hi]
      refine ⟨_, rfl, x, C, dx, _, _, rfl, upd_same, T.cl, T.nh, get_hi _, _, rfl, x, C, dx, _, _, rfl, upd_same, T.cl, T.nl, get_lo _, _, _, rfl, rfl, _, rfl, ?_⟩
      by_cases c : i < f
      · rw [decide_eq_true c]
        refine iteT ⟨_, rfl, _, rfl, x, C, dx, _, rfl, upd_same, T.cl, T.nl, two, ?_⟩
        rw [put_lo2, upd_upd]
        refine ⟨_, rfl, _, _, rfl, rfl, _, rfl, x, C, dx, _, rfl, upd_same, T.cl, T.nh, two, ?_⟩
        rw [put_hi2, upd_upd]
        refine q _ ⟨dx, ?_⟩ fun b o e n => ?_
        · rw [upd_same]
          show some (HO.ins C dx (flds (-B, -B - 1))) = some (HO.ins C dx (flds (if i < f then (-B, -B - 1) else (f, i))))
          rw [if_pos c]
        · rw [upd_ne n]; exact e
      · rw [decide_eq_false c]
        refine iteF (q _ ⟨dx, ?_⟩ fun b o e n => ?_)
        · rw [upd_same]
          show some (HO.ins C dx (flds (f, i))) = some (HO.ins C dx (flds (if i < f then (-B, -B - 1) else (f, i))))
          rw [if_neg c]
        · rw [upd_ne n]; exact e
end
end K26R
namespace K26R
open PySem PySem.Spec PyProof.Rows L2 Jg
local macro_rules | `(tactic| walk_at "rd1") => `(tactic| (first
  | refine ⟨_, rfl, ?_⟩
  | refine ⟨_, _, rfl, rfl, ?_⟩
  | refine ⟨_, _, rfl, ?_⟩
  | refine ⟨rfl, ?_⟩
  | (refine ⟨show (0 : Int) < _ by omega, ?_⟩)
  | (refine ⟨Or.inl ⟨by omega, by omega⟩, ?_⟩)
  | (refine ⟨Or.inr ⟨by omega, by omega⟩, ?_⟩)
  | (refine ⟨(⟨by decide, by decide, by decide⟩ : CPow _ _), ?_⟩)
  | refine Or.inl ⟨_, rfl, ?_⟩
  | refine Or.inr ⟨_, rfl, ?_⟩
  | fail "rd"))
local macro_rules | `(tactic| walk_at "rd") => `(tactic| repeat' walk_at "rd1")
theorem ne_dec {x y : Int} : decide (V.int x = V.int y) = decide (x = y) := by
  by_cases c : x = y
  · rw [c, decide_eq_true rfl, decide_eq_true rfl]
  · rw [decide_eq_false c, decide_eq_false fun z => c (V.int.inj z)]
end K26R
namespace K26R
open PySem PySem.Spec PyProof.Rows L2 Jg
local macro_rules | `(tactic| walk_at "rd1") => `(tactic| (first
  | refine ⟨_, rfl, ?_⟩
  | refine ⟨_, _, rfl, rfl, ?_⟩
  | refine ⟨_, _, rfl, ?_⟩
  | refine ⟨rfl, ?_⟩
  | (refine ⟨show (0 : Int) < _ by omega, ?_⟩)
  | (refine ⟨Or.inl ⟨by omega, by omega⟩, ?_⟩)
  | (refine ⟨Or.inr ⟨by omega, by omega⟩, ?_⟩)
  | (refine ⟨(⟨by decide, by decide, by decide⟩ : CPow _ _), ?_⟩)
  | refine Or.inl ⟨_, rfl, ?_⟩
  | refine Or.inr ⟨_, rfl, ?_⟩
  | fail "rd"))
local macro_rules | `(tactic| walk_at "rd") => `(tactic| repeat' walk_at "rd1")
def lastV (r : Int × Int) : V := if r.2 < r.1 then .non else if r.2 = B then .non else .int r.2
def spLast (C : Addr) : Sp := fun vs H Q _ => ∃ p r, vs = [.ref p] ∧ RAt C H p r ∧ Q (lastV r) H
section
variable {P : Program} {w : World} {K : PySem.W.Frag} {mg : Str → Option Value} {base : Heap} {C : Addr}
theorem sc_Range_last : FnScope ["self"] ["self"] (defScope s_Range_last) := ⟨rfl, rfl, rfl, by decide +kernel, rfl, by decide +kernel, by decide +kernel⟩
theorem ok_last (D : PrpK K C "last" "Range.last" s_Range_last) (T : Txt K mg C) : Prp P w K mg base CX0 1 C "last" (spLast C) := by
  refine D.prp sc_Range_last (fun _ _ _ _ _ _ us hl => match us, hl with | [_], _ => rfl) (fun vs H Q E h => ?_) fun f cdv A outer s H vs Q E hr h => ?_
  · obtain ⟨p, r, rfl, _⟩ := h; rfl
  · obtain ⟨p, r, rfl, ⟨dx, hp⟩, k⟩ := h
    refine ⟨_, (pss_cons (ps_if (PW.pt (pw_or (pt_cmpR op_gt (pe_fld (pv 0) rfl) (pe_fld (pv 0) rfl) (nomark _)) (pw_or1 (pt_cmpR op_eq (pe_fld (pv 0) rfl) (pe_gc rfl T.gBOUND) (nomark _))))) (pss_one (ps_ret pe_non)) pss_nil)
      (pss_one (ps_ret (pe_fld (pv 0) rfl)))), ?_⟩
    refine ⟨_, rfl, p, C, dx, _, _, rfl, hp, T.cl, T.nl, get_lo _, _, rfl, p, C, dx, _, _, rfl, hp, T.cl, T.nh, get_hi _, _, _, rfl, rfl, _, rfl, ?_⟩
    unfold lastV at k
    by_cases c : r.2 < r.1
    · rw [if_pos c] at k
      exact iteTe (decide_eq_true c) k
    · rw [if_neg c] at k
      refine iteFe (decide_eq_false c) ⟨_, rfl, p, C, dx, _, _, rfl, hp, T.cl, T.nh, get_hi _, rfl, ?_⟩
      rw [ne_dec]
      by_cases c2 : r.2 = B
      · rw [if_pos c2] at k
        exact ⟨_, rfl, iteTe (decide_eq_true c2) k⟩
      · rw [if_neg c2] at k
        exact ⟨_, rfl, iteFe (decide_eq_false c2) ⟨_, rfl, p, C, dx, _, _, rfl, hp, T.cl, T.nh, get_hi _, k⟩⟩
end
end K26R
namespace Jg
open PySem PySem.Spec PyProof.Rows L2
section
variable {P : Program} {w : World} {K : PySem.W.Frag} {mg : Str → Option Value} {base : Heap} {k : Nat} {x : Str} {st : Stmt} {c : Addr} {N ps : List Str} {sp : Sp}
/-- .. walked where no repr is under way -/
theorem DefC.calG (D : DefC K mg x st c) (S : FnScope N ps (defScope st)) (b : BindOk x x st ps) (len : ∀ vs H Q E, sp vs H Q E → vs.length = ps.length)
    (hb : ∀ (f : Addr) (A : Around) (outer : List Env) (s : Shared) (H : Hp) (vs : List V) (Q : VK) (E : XK), (cxOf CX0 P w K mg base N x (defScope st) f (.ref c) A outer s H E).nox.A.guards = some [] → Room k (A.deeper (envOfC x (defScope st) s.heap.objs.size f (.ref c))) → sp vs H Q E →
      ∃ t, PSs (cxOf CX0 P w K mg base N x (defScope st) f (.ref c) A outer s H E).nox (defBody st) t ∧ t { nx := fun _ H' => Q .non H', rt := Q } (start N vs) H) : CalG P w K mg base CX0 (k + 1) x sp := by
  obtain ⟨f, oc, od, kV, doc, pm, an, ct, osl, lk, hcd, kp, hm⟩ := D.ex
  refine ⟨f, _, ps, ⟨len, fun A g outer s H args us vs Q E hr e0 hb2 r hsp => ?_⟩, hm, kp, .all (b kV doc pm an (.ref c) ct)⟩
  have inHeap : K.In s.heap := e0.mod.kin.keeps fun b o e => (e0.bs b o e).1
  have kinds : ∀ y ∈ ps.zip us, (defScope st).names.lookup y.1 = some .local ∨ ((defScope st).names.lookup y.1 = some .cell ∧ ((cellsFrom (s.heap.objs.size + 1) (defScope st).names []).lookup y.1).isSome = true) := fun y hy =>
    (S.par y.1 (List.of_mem_zip hy).1).imp id fun q => ⟨q, PySem.W.cellsFrom_some _ _ _ (.inl q)⟩
  refine codeAny_call_function hr.depth (inHeap _ _ lk) rfl S.co S.gen rfl (PySem.W.codeRec_of inHeap hcd) (hb2 _ _ _ _ ?_)
  refine wpAny_newFunctionEnv_cells S.kind kinds fun env he s1 y => ?_
  subst he
  obtain ⟨t, ht, hq⟩ := hb f A outer s H vs Q E (guards_deeper g) (hr.deeper _) hsp
  have I := inv_start (CX := CX0) (E := E) S hr.hd e0 (len _ _ _ _ hsp) r y
  refine ⟨(e0.mod.nolimit.keeps fun b o e => (e0.bs b o e).1).keeps y.toInCall.keep, codeAny_func (wpAny_mono (ht.nox.run [] s1 (start N vs) H _ I hq) (fun fl s' hs => ?_) fun _ _ hs => hs)⟩
  match fl, hs with
  | .ret u, ⟨v, _, H', J, rv, q⟩ => exact ⟨v, H', J.os, J.bare, J.base, J.hok, rv, q⟩
  | .next, ⟨_, H', J, q⟩ => exact ⟨.non, H', J.os, J.bare, J.base, J.hok, rfl, q⟩
  | .brk, ⟨_, _, _, q⟩ => exact False.elim q
  | .cont, ⟨_, _, _, q⟩ => exact False.elim q
end
/-- the slots are as many as the names -/
theorem Takes.sized {X : Cx} {W : WX} (t : Takes X W) : Takes X (fun cls d σ H => σ.length = X.N.length → W cls d σ H) := fun u s' ⟨a, B, sI, pins, σ, H, cls, d, e, I, nb, up, sky, na, os, ag, w⟩ =>
  t u s' ⟨a, B, sI, pins, σ, H, cls, d, e, I, nb, up, sky, na, os, ag, w I.len⟩
end Jg
namespace K26
open PySem PySem.Spec PyProof.Rows L2 Jg
local macro_rules | `(tactic| walk_at "rd1") => `(tactic| (first
  | refine ⟨_, rfl, ?_⟩
  | refine ⟨_, _, rfl, rfl, ?_⟩
  | refine ⟨_, _, rfl, ?_⟩
  | refine ⟨rfl, ?_⟩
  | (refine ⟨show (0 : Int) < _ by omega, ?_⟩)
  | (refine ⟨Or.inl ⟨by omega, by omega⟩, ?_⟩)
  | (refine ⟨Or.inr ⟨by omega, by omega⟩, ?_⟩)
  | (refine ⟨(⟨by decide, by decide, by decide⟩ : CPow _ _), ?_⟩)
  | refine Or.inl ⟨_, rfl, ?_⟩
  | refine Or.inr ⟨_, rfl, ?_⟩
  | fail "rd"))
local macro_rules | `(tactic| walk_at "rd") => `(tactic| repeat' walk_at "rd1")
theorem same_new {H : Hp} {p : Addr} {o : HO} (h : H p = none) : Same H (upd H p o) := fun b u e => by rw [upd_ne (ne_of_none e h)]; exact e
theorem same_new' {H H1 : Hp} {p : Addr} {o : HO} (s : Same H H1) (h : H1 p = none) : Same H (upd H1 p o) := s.trans (same_new h)
theorem same_mut {H H1 : Hp} {p : Addr} {o : HO} (s : Same H H1) (h : H p = none) : Same H (upd H1 p o) := fun b u e => by rw [upd_ne (ne_of_none e h)]; exact s b u e
def spBtwn (K : PySem.W.Frag) : Sp := K26F.spBtwn K
def spMom (K : PySem.W.Frag) : Sp := fun vs H Q _ => ∃ y, vs = [y] ∧ ((∃ i, y = .int i ∧ Q (.bl (decide (0 ≤ i) && decide (i ≤ LM))) H) ∨ (K26F.NoInt K H y ∧ Q (.bl false) H))
def spIdx (K : PySem.W.Frag) : Sp := fun vs H Q _ => ∃ y n, vs = [y, .int n] ∧ ((∃ i, y = .int i ∧ Q (.bl (decide (0 ≤ i) && decide (i ≤ n - 1))) H) ∨ (K26F.NoInt K H y ∧ Q (.bl false) H))
def spTup2 (K : PySem.W.Frag) : Sp := fun vs H Q _ => ∃ t xs n, vs = [.ref t, .int n] ∧ H t = some (.tup xs) ∧ Q (.bl (decide ((xs.length : Int) = n))) H
def spIsEd (C : Addr) : Sp := fun vs H Q _ => ∃ e, vs = [.ref e.t] ∧ EdAt C H e ∧ 0 ≤ e.m ∧ e.m ≤ LM ∧ Q (.bl true) H
section
variable {P : Program} {w : World} {K : PySem.W.Frag} {mg : Str → Option Value} {base : Heap} {C : Addr}
theorem sc_is_moment : FnScope ["value"] ["value"] (defScope s_is_moment) := ⟨rfl, rfl, rfl, by decide +kernel, rfl, by decide +kernel, by decide +kernel⟩
theorem ok_is_moment (D : DefK K mg "is_moment" s_is_moment) (T : TxP K mg) (G_is_between : Cal P w K mg base CX0 2 "is_between" (spBtwn K)) : Cal P w K mg base CX0 3 "is_moment" (spMom K) := by
  refine D.cal sc_is_moment (fun _ _ _ _ _ _ us hl => match us, hl with | [_], _ => rfl) (fun vs H Q E h => ?_) fun f cdv A outer s H vs Q E hr h => ?_
  · obtain ⟨y, rfl, _⟩ := h; rfl
  · obtain ⟨y, rfl, h⟩ := h
    refine ⟨_, (pss_one (ps_ret (pe_c G_is_between hr (by decide) rfl (pa_cons (pv 0) (pa_cons pe_int (pa_cons (pe_gc rfl T.g_LAST_MOMENT) pa_nil)))))), ?_⟩
    exact ⟨_, rfl, y, 0, LM, rfl, h⟩
theorem sc_is_index : FnScope ["value", "many"] ["value", "many"] (defScope s_is_index) := ⟨rfl, rfl, rfl, by decide +kernel, rfl, by decide +kernel, by decide +kernel⟩
theorem ok_is_index (D : DefK K mg "is_index" s_is_index) (G_is_between : Cal P w K mg base CX0 2 "is_between" (spBtwn K)) : Cal P w K mg base CX0 3 "is_index" (spIdx K) := by
  refine D.cal sc_is_index (fun _ _ _ _ _ _ us hl => match us, hl with | [_, _], _ => rfl) (fun vs H Q E h => ?_) fun f cdv A outer s H vs Q E hr h => ?_
  · obtain ⟨y, n, rfl, _⟩ := h; rfl
  · obtain ⟨y, n, rfl, h⟩ := h
    refine ⟨_, (pss_one (ps_ret (pe_c G_is_between hr (by decide) rfl (pa_cons (pv 0) (pa_cons pe_int (pa_cons (pe_op op_sub (pv 1) pe_int) pa_nil)))))), ?_⟩
    exact ⟨_, rfl, _, rfl, _, _, rfl, rfl, y, 0, n - 1, rfl, h⟩
theorem sc_is_tuple_of : FnScope ["value", "many"] ["value", "many"] (defScope s_is_tuple_of) := ⟨rfl, rfl, rfl, by decide +kernel, rfl, by decide +kernel, by decide +kernel⟩
theorem ok_is_tuple_of (D : DefK K mg "is_tuple_of" s_is_tuple_of) (T : TxP K mg) : Cal P w K mg base CX0 1 "is_tuple_of" (spTup2 K) := by
  refine D.cal sc_is_tuple_of (fun _ _ _ _ _ _ us hl => match us, hl with | [_, _], _ => rfl) (fun vs H Q E h => ?_) fun f cdv A outer s H vs Q E hr h => ?_
  · obtain ⟨t, xs, n, rfl, _⟩ := h; rfl
  · obtain ⟨t, xs, n, rfl, et, q⟩ := h
    refine ⟨_, (pss_one (ps_ret (pe_and (pe_callB call_isi (by rfl) T.b_isinstance (by decide +kernel) (pa_cons (pv 0) (pa_cons (pe_ty (n := "tuple") (by rfl) T.b_tuple (by decide +kernel)) pa_nil))) (pe_one (pe_cmpR op_eq (pe_callB call_len_seq (by rfl) T.b_len (by decide +kernel) (pa_cons (pv 0) pa_nil)) (pv 1) (nomark _)))))), ?_⟩
    refine ⟨_, rfl, .ref t, .ty "tuple", _, _, true, rfl, .ty "tuple", .base (.tup et), kit_ty (by decide +kernel), true, rfl, iteT ?_⟩
    refine ⟨_, rfl, t, xs, rfl, .inr (SqT.of et), _, rfl, rfl, ?_⟩
    have e : decide (V.int (xs.length : Int) = V.int n) = decide ((xs.length : Int) = n) := decide_eq_decide.mpr ⟨fun z => V.int.inj z, fun z => by rw [z]⟩
    rw [e]; exact q
theorem sc_is_edition : FnScope ["value"] ["value"] (defScope s_is_edition) := ⟨rfl, rfl, rfl, by decide +kernel, rfl, by decide +kernel, by decide +kernel⟩
theorem ok_is_edition (D : DefK K mg "_is_edition" s_is_edition) (T : TxP K mg) (J : K26C.CTx K mg C) (G_is_tuple_of : Cal P w K mg base CX0 1 "is_tuple_of" (spTup2 K)) (G_is_moment : Cal P w K mg base CX0 3 "is_moment" (spMom K)) : Cal P w K mg base CX0 4 "_is_edition" (spIsEd C) := by
  refine D.cal sc_is_edition (fun _ _ _ _ _ _ us hl => match us, hl with | [_], _ => rfl) (fun vs H Q E h => ?_) fun f cdv A outer s H vs Q E hr h => ?_
  · obtain ⟨e, rfl, _⟩ := h; rfl
  · obtain ⟨e, rfl, at_, m0, m1, q⟩ := h
    refine ⟨_, (pss_one (ps_ret (pe_and (pe_c G_is_tuple_of hr (by decide) rfl (pa_cons (pv 0) (pa_cons pe_int pa_nil))) (pe_and (pe_c G_is_moment hr (by decide) rfl (pa_cons (pe_ix (r := rIxT K) ix_tup (pv 0) pe_int (fun _ _ => rfl)) pa_nil)) (pe_one (pe_callB call_isi (by rfl) T.b_isinstance (by decide +kernel) (pa_cons (pe_ix (r := rIxT K) ix_tup (pv 0) pe_int (fun _ _ => rfl)) (pa_cons (pe_glob (v := .ref C) rfl J.cC rfl) pa_nil)))))))), ?_⟩
    have sq : SqT K H e.t [.int e.m, .ref e.x] := SqT.of at_.tp
    obtain ⟨⟨dx, d, v, sg, ex, _⟩, _⟩ := id at_.ct
    refine ⟨_, rfl, e.t, _, 2, rfl, at_.tp, true, rfl, iteT ?_⟩
    refine ⟨_, rfl, e.t, _, 0, _, rfl, rfl, sq, atI_nat (j := 0) rfl, .int e.m, rfl, .inl ⟨e.m, rfl, true, by rw [decide_eq_true m0, decide_eq_true m1]; rfl, iteT ?_⟩⟩
    exact ⟨_, rfl, e.t, _, 1, _, rfl, rfl, sq, atI_nat (j := 1) rfl, .ref e.x, .ref C, _, _, true, rfl, .own C, J.ty ex, J.kCC, q⟩
end
end K26
namespace K26
open PySem PySem.Spec PyProof.Rows L2 Jg
local macro_rules | `(tactic| walk_at "rd1") => `(tactic| (first
  | refine ⟨_, rfl, ?_⟩
  | refine ⟨_, _, rfl, rfl, ?_⟩
  | refine ⟨_, _, rfl, ?_⟩
  | refine ⟨rfl, ?_⟩
  | (refine ⟨show (0 : Int) < _ by omega, ?_⟩)
  | (refine ⟨Or.inl ⟨by omega, by omega⟩, ?_⟩)
  | (refine ⟨Or.inr ⟨by omega, by omega⟩, ?_⟩)
  | (refine ⟨(⟨by decide, by decide, by decide⟩ : CPow _ _), ?_⟩)
  | refine Or.inl ⟨_, rfl, ?_⟩
  | refine Or.inr ⟨_, rfl, ?_⟩
  | fail "rd"))
local macro_rules | `(tactic| walk_at "rd") => `(tactic| repeat' walk_at "rd1")
def spFw (C : Addr) : Sp := fun vs H Q _ => ∃ l es, vs = [.ref l] ∧ H l = some (.lst (es.map Ed.v)) ∧ (∀ e ∈ es, EdAt C H e) ∧ EdsOk es ∧ ∀ H', Same H H' → Q .non H'
theorem ed_at {es : List Ed} {i : Nat} {x : V} (h : (es.map Ed.v)[i]? = some x) : ∃ e, es[i]? = some e ∧ x = .ref e.t := by
  rw [List.getElem?_map] at h
  cases c : es[i]? with
  | none => rw [c] at h; cases h
  | some e => rw [c] at h; exact ⟨e, rfl, (Option.some.inj h).symm⟩
theorem ed_get {es : List Ed} {i : Nat} {e : Ed} (h : es[i]? = some e) : (es.map Ed.v)[i]? = some (.ref e.t) := by rw [List.getElem?_map, h]; rfl
theorem okW_role {c : K26C.Ct} (ok : K26C.CtOk c) : ∀ z ∈ c.us.map (·.z), okW z := fun z hz => by
  obtain ⟨r, hr, rfl⟩ := List.mem_map.mp hz
  have w := (ok.us r hr).2.1
  unfold K26C.wordB at w
  exact okW_ascii (Bool.and_eq_true_iff.mp (Bool.and_eq_true_iff.mp w).2).1
theorem get_e (l : Addr) : ([(("_editions" : Str), V.ref l)] : List (Str × V)).lookup ("_editions" : Str) = some (.ref l) := by
  have e : ((("_editions" : Str)) == ("_editions" : Str)) = true := by decide +kernel
  simp only [List.lookup, e]
theorem get_eno (l : Addr) {m : Str} (h : (m == ("_editions" : Str)) = false) : ([(("_editions" : Str), V.ref l)] : List (Str × V)).lookup m = none := by
  simp only [List.lookup, h]
theorem for_enum {K : PySem.W.Frag} {a : Addr} {xs : List V} {g : TG} {tb : TS} {D : Ends} {σ : L2.St} {H : Hp} {i : Nat} (hi : σ[i]? = some (some (.ref a))) (ea : H a = some (.lst xs)) (Pv : Nat → L2.St → Hp → Prop) (h0 : Pv 0 σ H) (hq : ∀ i σ H', Pv i σ H' → Same H H')
    (hs : ∀ (j : Nat) (x : V) (T : Addr) (σ : L2.St) (H : Hp), xs[j]? = some x → Pv j σ H → H T = none → g (.ref T) σ (upd H T (.tup [.int (j : Nat), x])) fun σ2 H2 => tb { D with nx := Pv (j + 1), ct := Pv (j + 1), bk := D.nx } σ2 H2) (hd : ∀ σ H, Pv xs.length σ H → D.nx σ H) :
    tFor (iEnum K (tCons (tVar i) tNil)) g tb D σ H := by
  unfold tFor iEnum
  exact ⟨_, hi, a, xs, rfl, SqL.of ea, for_it walk_enum Pv h0 (fun i σ H' _ p => SqL.of (hq _ _ _ p _ _ ea)) (fun j x σ H' H2 lt p y => by
    obtain ⟨T, kk, vv, rfl, nT, rfl, ek, ev⟩ := y
    cases Option.some.inj ek
    exact hs j vv T σ H' ev p nT) hd⟩
section
variable {P : Program} {w : World} {K : PySem.W.Frag} {mg : Str → Option Value} {base : Heap} {C PC CU : Addr}
theorem sc_first_wrong : FnScope ["editions", "number", "edition"] ["editions"] (defScope s_first_wrong) := ⟨rfl, rfl, rfl, by decide +kernel, rfl, by decide +kernel, by decide +kernel⟩
theorem ok_first_wrong (D : DefK K mg "_first_wrong" s_first_wrong) (T : TxP K mg) (J : K26C.CTx K mg C) (G_is_edition : Cal P w K mg base CX0 4 "_is_edition" (spIsEd C)) (P_roles : Prp P w K mg base CX0 1 C "roles" (K26C.spLst C fun c => c.us.map (·.z))) : Cal P w K mg base CX0 5 "_first_wrong" (spFw C) := by
  refine D.cal sc_first_wrong (fun _ _ _ _ _ _ us hl => match us, hl with | [_], _ => rfl) (fun vs H Q E h => ?_) fun f cdv A outer s H vs Q E hr h => ?_
  · obtain ⟨l, es, rfl, _⟩ := h; rfl
  · obtain ⟨l, es, rfl, el, at_, ok, k⟩ := h
    have hu : (A.deeper (envOfC "_first_wrong" (defScope s_first_wrong) s.heap.objs.size f cdv)).units + 64 < cLine := hr.units
    refine ⟨_, (pss_cons (ps_for PassesOwn.never rfl (pi_enum (by rfl) T.b_enumerate (pa_cons (pv 0) pa_nil)) (pg_tup rfl (pgs_cons (pg_name (i := 1) sc_first_wrong.nd rfl (Or.inl rfl)) (pgs_cons (pg_name (i := 2) sc_first_wrong.nd rfl (Or.inl rfl)) pgs_nil))) (pss_cons (ps_if (pt_not (pt_val (pe_c G_is_edition hr (by decide) rfl (pa_cons (pv 2) pa_nil)))) (pss_one (ps_ret (pv 1))) pss_nil)
      (C8.pss_cut (ps_if (PW.pt (pw_and (pt_cmpR op_gt (pv 1) pe_int (nomark _)) (pw_and1 (pt_cmpR op_le (pe_ix (r := rIxT K) ix_tup (pv 2) pe_int (fun _ _ => rfl)) (pe_ix (r := rIxT K) ix_tup (pe_ix (r := rIxL K) ix_list (pv 0) (pe_op op_sub (pv 1) pe_int) (fun _ _ => rfl)) pe_int (fun _ _ => rfl)) (nomark _))))) (pss_one (ps_ret (pv 1))) pss_nil)
      (pss_one (ps_if (pt_cmpR (op_neD hu) (pe_p P_roles J.cl hr (by decide) (pe_ix (r := rIxT K) ix_tup (pv 2) pe_int (fun _ _ => rfl))) (pe_p P_roles J.cl hr (by decide) (pe_ix (r := rIxT K) ix_tup (pe_ix (r := rIxL K) ix_list (pv 0) pe_int (fun _ _ => rfl)) pe_int (fun _ _ => rfl))) (nomark _)) (pss_one (ps_ret (pv 1))) pss_nil)))))
      (pss_one (ps_ret pe_non))), ?_⟩
    refine for_enum (a := l) (xs := es.map Ed.v) rfl el (fun j σ' H' => ∃ v1 v2, σ' = [some (.ref l), v1, v2] ∧ Same H H') ⟨_, _, rfl, .refl _⟩ (fun j σ' H' ⟨_, _, _, s⟩ => s) ?_ ?_
    · rintro j y T0 σ' H' hy ⟨v1, v2, rfl, s'⟩ nT
      obtain ⟨e, ee, rfl⟩ := ed_at hy
      have he := List.mem_of_getElem? ee
      have sT := same_new' (o := .tup [.int (j : Nat), .ref e.t]) s' nT
      refine ⟨T0, _, rfl, SqT.of upd_same, rfl, _, _, rfl, _, _, rfl, rfl, ?_⟩
      generalize upd H' T0 (.tup [.int (j : Nat), .ref e.t]) = H1 at *
      have ae := (at_ e he).same sT
      have sq : SqT K H1 e.t [.int e.m, .ref e.x] := SqT.of ae.tp
      have sl : SqL K H1 l (es.map Ed.v) := SqL.of (sT _ _ el)
      refine ⟨_, rfl, e, rfl, ae, (ok.mo e he).1, (ok.mo e he).2, _, rfl, iteF ?_⟩
      obtain ⟨e0, ee0⟩ : ∃ e0, es[0]? = some e0 := by
        have := ok.n1
        match es, this with
        | e0 :: _, _ => exact ⟨e0, rfl⟩
      have he0 := List.mem_of_getElem? ee0
      have a0 := (at_ e0 he0).same sT
      have sq0 : SqT K H1 e0.t [.int e0.m, .ref e0.x] := SqT.of a0.tp
      obtain ⟨⟨dx, d, v, sg, ex, _⟩, _⟩ := id ae.ct
      obtain ⟨⟨dx0, d0, v0, sg0, ex0, _⟩, _⟩ := id a0.ct
      have few : e.c.us.length ≤ 3 := ae.ok.n3
      refine ⟨fun σ' H2 => σ' = [some (.ref l), some (.int (j : Nat)), some (.ref e.t)] ∧ H2 = H1, ?_, ?_⟩
      · refine ⟨_, rfl, _, _, rfl, rfl, _, rfl, ?_⟩
        by_cases c0 : (0 : Int) < (j : Nat)
        · rw [decide_eq_true c0]
          refine iteT ?_
          obtain ⟨i0, rfl⟩ : ∃ i0, j = i0 + 1 := ⟨j - 1, by omega⟩
          have ej : (((i0 + 1 : Nat) : Int) - 1) = ((i0 : Nat) : Int) := by omega
          obtain ⟨b, eb⟩ : ∃ b, es[i0]? = some b := ⟨_, List.getElem?_eq_getElem (by have := (List.getElem?_eq_some_iff.mp ee).1; omega)⟩
          have ab := (at_ b (List.mem_of_getElem? eb)).same sT
          have lt := ok.inc i0 b e eb ee
          refine ⟨_, rfl, e.t, _, 0, _, rfl, rfl, sq, atI_nat (j := 0) rfl, _, rfl, _, rfl, _, _, rfl, rfl, l, _, _, .ref b.t, rfl, rfl, sl, ?_, b.t, _, 0, _, rfl, rfl, SqT.of ab.tp, atI_nat (j := 0) rfl, _, _, rfl, rfl, _, rfl, ?_⟩
          · rw [ej]
            exact atI_nat (j := i0) (ed_get eb)
          · rw [decide_eq_false (by omega)]
            exact iteF ⟨rfl, rfl⟩
        · rw [decide_eq_false c0]
          exact iteF (iteF ⟨rfl, rfl⟩)
      · rintro _ _ ⟨rfl, rfl⟩
        refine ⟨_, rfl, e.t, _, 1, _, rfl, rfl, sq, atI_nat (j := 1) rfl, e.x, dx, _, rfl, ex, e.x, e.c, _, rfl, ae.ct, fun p1 n1 => ?_⟩
        have s1 := same_new (o := .lst ((e.c.us.map (·.z)).map V.str)) n1
        refine ⟨_, rfl, _, _, 0, _, rfl, rfl, s1.seq sl, atI_nat (j := 0) (ed_get ee0), e0.t, _, 1, _, rfl, rfl, SqT.of (s1 _ _ a0.tp), atI_nat (j := 1) rfl, e0.x, dx0, _, rfl, s1 _ _ ex0, e0.x, e0.c, _, rfl, a0.ct.same s1, fun p2 n2 => ?_⟩
        have s2 := same_new (o := .lst ((e0.c.us.map (·.z)).map V.str)) n2
        refine ask_neS (xs := e.c.us.map (·.z)) (ys := e0.c.us.map (·.z)) (SqL.of (s2 _ _ upd_same)) (SqL.of upd_same) (okW_role ae.ok) (okW_role a0.ok) ⟨_, rfl, iteFe (by rw [decide_eq_true (ok.rl e he e0 he0)]; rfl) ⟨_, _, rfl, sT.trans (s1.trans s2)⟩⟩
    · rintro σ' H' ⟨v1, v2, rfl, s'⟩
      exact k _ s'
end
end K26
namespace K26
open PySem PySem.Spec PyProof.Rows L2 Jg
local macro_rules | `(tactic| walk_at "rd1") => `(tactic| (first
  | refine ⟨_, rfl, ?_⟩
  | refine ⟨_, _, rfl, rfl, ?_⟩
  | refine ⟨_, _, rfl, ?_⟩
  | refine ⟨rfl, ?_⟩
  | (refine ⟨show (0 : Int) < _ by omega, ?_⟩)
  | (refine ⟨Or.inl ⟨by omega, by omega⟩, ?_⟩)
  | (refine ⟨Or.inr ⟨by omega, by omega⟩, ?_⟩)
  | (refine ⟨(⟨by decide, by decide, by decide⟩ : CPow _ _), ?_⟩)
  | refine Or.inl ⟨_, rfl, ?_⟩
  | refine Or.inr ⟨_, rfl, ?_⟩
  | fail "rd"))
local macro_rules | `(tactic| walk_at "rd") => `(tactic| repeat' walk_at "rd1")
def spPInit (PC C : Addr) : Sp := fun vs H Q _ => ∃ x dx l es H0, vs = [.ref x, .ref l] ∧ H x = some (.ins PC dx []) ∧ Same H0 H ∧ H0 x = none ∧ H0 l = some (.lst (es.map Ed.v)) ∧ (∀ e ∈ es, EdAt C H0 e) ∧ EdsOk es ∧
  ∀ H' es', PlAt PC C H' x es' → es'.map Ed.k = es.map Ed.k → Same H0 H' → Q .non H'
def spPLen (PC C : Addr) : Sp := fun vs H Q _ => ∃ p es, vs = [.ref p] ∧ PlAt PC C H p es ∧ Q (.int es.length) H
def spPCheck (K : PySem.W.Frag) (PC C CE : Addr) : Sp := fun vs H Q E => ∃ p es y, vs = [.ref p, y] ∧ PlAt PC C H p es ∧
  ((∃ n : Nat, y = .int n ∧ n < es.length ∧ Q .non H) ∨ (K26F.BadR K H 0 (es.length - 1) y ∧ ∀ d H', H d = none → Same H H' → H' d = some (.xd [(("number" : Str), y)]) → E (.ref CE) (some d) H'))
def spPOf (K : PySem.W.Frag) (PC C CE : Addr) (out : Ed → V) : Sp := fun vs H Q E => ∃ p es y, vs = [.ref p, y] ∧ PlAt PC C H p es ∧
  ((∃ (n : Nat) (e : Ed), y = .int n ∧ es[n]? = some e ∧ Q (out e) H) ∨ (K26F.BadR K H 0 (es.length - 1) y ∧ ∀ d H', H d = none → Same H H' → H' d = some (.xd [(("number" : Str), y)]) → E (.ref CE) (some d) H'))
def spPMoms (PC C : Addr) : Sp := fun vs H Q _ => ∃ p es, vs = [.ref p] ∧ PlAt PC C H p es ∧ ∀ l H', H l = none → Same H H' → H' l = some (.lst (es.map fun e => V.int e.m)) → Q (.ref l) H'
section
variable {P : Program} {w : World} {K : PySem.W.Frag} {mg : Str → Option Value} {base : Heap} {C PC CU CE : Addr}
theorem sc_UnknownEdition_init : FnScope ["self", "number"] ["self", "number"] (defScope s_UnknownEdition_init) := ⟨rfl, rfl, rfl, by decide +kernel, rfl, by decide +kernel, by decide +kernel⟩
theorem ok_ueinit (D : K26F.ExnQ K mg "UnknownEdition" CE "UnknownEdition.__init__" s_UnknownEdition_init "number") : ExnB P w K mg base 1 "UnknownEdition" CE (spX CE "number") := by
  obtain ⟨fI, fd, F, a, ty⟩ := D.ini
  refine ⟨D.mg_, D.ovr, fI, fd, _, F.ok sc_UnknownEdition_init (fun vs H Q E h => ?_) (fun cdv A outer s H vs Q E hr h => ?_), a, ty, F.binds (fun _ _ _ _ _ _ us hl => match us, hl with | [_, _], _ => rfl)⟩
  · obtain ⟨a, y, rfl, _⟩ := h; rfl
  · obtain ⟨a, y, rfl, ha, k⟩ := h
    exact ⟨_, (pss_one (ps_keep (pv 0) (pv 1))), _, rfl, _, rfl, a, CE, rfl, D.ovr, D.no, ha, fun dx n e => k dx n e⟩
theorem sc_Plan_init : FnScope ["self", "editions", "wrong", "moment", "contents"] ["self", "editions"] (defScope s_Plan_init) := ⟨rfl, rfl, rfl, by decide +kernel, rfl, by decide +kernel, by decide +kernel⟩
theorem ok_pinit (D : MetK K PC "__init__" "Plan.__init__" s_Plan_init) (T : TxP K mg) (PT : PTx K mg PC) (G_first_wrong : Cal P w K mg base CX0 5 "_first_wrong" (spFw C)) : Met P w K mg base CX0 6 PC "__init__" (spPInit PC C) := by
  refine D.met sc_Plan_init (fun _ _ _ _ _ _ us hl => match us, hl with | [_, _], _ => rfl) (fun vs H Q E h => ?_) fun f cdv A outer s H vs Q E hr h => ?_
  · obtain ⟨x, dx, l, es, H0, rfl, _⟩ := h; rfl
  · obtain ⟨x, dx, l, es, H0, rfl, ex, s0, nx, el0, at0, ok, k⟩ := h
    refine ⟨_, (pss_cons (ps_if (PW.pt (pw_or (pt_not (pt_val (pe_callB call_isi (by rfl) T.b_isinstance (by decide +kernel) (pa_cons (pv 1) (pa_cons (pe_ty (n := "list") (by rfl) T.b_list (by decide +kernel)) pa_nil))))) (pw_or1 (pt_not (pt_chain op_le op_le pe_int (pe_callB call_len_seq (by rfl) T.b_len (by decide +kernel) (pa_cons (pv 1) pa_nil)) (pe_gc rfl T.gMOST_EDITIONS)))))) (pss_one ps_never) pss_nil)
      (pss_cons (ps_set (i := 2) sc_Plan_init.nd rfl (Or.inl rfl) (pe_c G_first_wrong hr (by decide) rfl (pa_cons (pv 1) pa_nil)))
      (pss_cons (ps_if (pt_cmpR op_notN (pv 2) pe_non (nomark _)) (pss_one ps_never) pss_nil)
      (pss_one (ps_fld (pv 0) (pe_lc (own := [("moment", 3), ("contents", 4)]) (g := gTup K 2 (gCons (gName 3) (gCons (gName 4) gNil))) (by rfl) sc_Plan_init.nd (pi_list (pv 1)) (blkOk_by (own := [("moment", 3), ("contents", 4)]) (N := ["self", "editions", "wrong", "moment", "contents"]) (sc := defScope s_Plan_init) (by decide +kernel)) (fun _ _ _ _ _ => pg_tup rfl (pgs_cons (pg_name (i := 3) sc_Plan_init.nd rfl (Or.inl rfl)) (pgs_cons (pg_name (i := 4) sc_Plan_init.nd rfl (Or.inl rfl)) pgs_nil))) (fun _ _ _ _ _ => pts_nil) (fun _ _ _ _ _ => (pe_tup (pa_cons (pv 3) (pa_cons (pv 4) pa_nil))))) rfl))))), ?_⟩
    have el := s0 _ _ el0
    have at_ : ∀ e ∈ es, EdAt C H e := fun e he => (at0 e he).same s0
    have n1 := ok.n1
    have n7 := ok.n7
    have ln : ((es.map Ed.v).length : Int) = (es.length : Int) := by rw [List.length_map]
    refine ⟨_, rfl, .ref l, .ty "list", _, _, true, rfl, .ty "list", .base (.lst el), kit_ty (by decide +kernel), true, rfl, iteF ?_⟩
    refine ⟨_, rfl, l, _, rfl, .inl (SqL.of el), 1, _, rfl, rfl, _, rfl, iteTe (decide_eq_true (by rw [ln]; omega)) ⟨_, _, rfl, rfl, _, rfl, ?_⟩⟩
    rw [decide_eq_true (show ((es.map Ed.v).length : Int) ≤ 7 by rw [ln]; omega)]
    refine iteF ?_
    refine ⟨_, rfl, l, es, rfl, el, at_, ok, fun H1 s1 => ?_⟩
    refine ⟨_, rfl, rfl, _, rfl, iteF ?_⟩
    refine ⟨_, rfl, l, rfl, ⟨_, SqL.of (s1 _ _ el)⟩, fun D nD => ?_⟩
    refine lc_list (K := K) (a := l) (xs := es.map Ed.v) (fun i H' => ∃ es', H' D = some (.lst (es'.map Ed.v)) ∧ es'.map Ed.k = (es.take i).map Ed.k ∧ (∀ e ∈ es', H' e.t = some (.tup [.int e.m, .ref e.x])) ∧ Same H1 H') ⟨[], upd_same, rfl, (fun _ h => nomatch h), same_new nD⟩ (fun i H' _ ⟨_, _, _, _, s⟩ => SqL.of (s _ _ (s1 _ _ el))) ?_ ?_
    · rintro i y H' hy ⟨es', eD, eP, cP, sP⟩
      obtain ⟨e, ee, rfl⟩ := ed_at hy
      have ae := ((at_ e (List.mem_of_getElem? ee)).same s1).same sP
      have tk : es.take (i + 1) = es.take i ++ [e] := by rw [List.take_succ, ee]; rfl
      refine ⟨e.t, _, rfl, SqT.of ae.tp, rfl, _, _, rfl, _, _, rfl, rfl, rfl, K26C.yes_if ?_⟩
      refine ⟨_, rfl, _, rfl, by show 2 ≤ sizeLine; decide, fun t nt => ?_⟩
      have pl : es'.length = (es.take i).length := by
        have z1 := congrArg List.length eP
        rw [List.length_map, List.length_map] at z1
        exact z1
      have pt := List.length_take_le i es
      have pm : es'.length ≤ 7 := by rw [pl, List.length_take]; omega
      refine ⟨_, (same_new nt) _ _ eD, by rw [List.length_map, sizeLine_eq]; omega, es' ++ [⟨e.m, t, e.x, e.c⟩], by rw [upd_same, List.map_append]; rfl, by rw [List.map_append, eP, tk, List.map_append]; rfl, fun q hq => ?_, fun q o z => ?_⟩
      · rcases List.mem_append.mp hq with hq | hq
        · have nq : q.t ≠ D := fun z => by have := cP q hq; rw [z, eD] at this; cases this
          rw [upd_ne nq]
          exact same_new nt _ _ (cP q hq)
        · obtain rfl := List.mem_singleton.mp hq
          have nq : t ≠ D := fun z => by rw [z, eD] at nt; cases nt
          show upd _ D _ t = _
          rw [upd_ne nq]
          exact upd_same
      · have nq : q ≠ D := ne_of_none z nD
        rw [upd_ne nq]
        exact same_new nt _ _ (sP _ _ z)
    · rintro H' ⟨es', eD, eP, cP, sP⟩
      rw [show (es.map Ed.v).length = es.length by rw [List.length_map], List.take_length] at eP
      have ex' := sP _ _ (s1 _ _ ex)
      refine ⟨_, rfl, x, PC, dx, [], rfl, ex', PT.cl, PT.ne, by show 0 < 1000; decide, ?_⟩
      have s4 : Same H0 (upd H' x (.ins PC dx [(("_editions" : Str), .ref D)])) := same_mut (s0.trans (s1.trans sP)) nx
      have nD' : D ≠ x := fun z => by rw [z, ex'] at eD; cases eD
      refine k _ es' ⟨⟨dx, D, upd_same, by rw [upd_ne nD']; exact eD⟩, fun e he => ?_, ok.of eP⟩ eP s4
      have me : Ed.k e ∈ es.map Ed.k := eP ▸ List.mem_map_of_mem he
      obtain ⟨q, hq, eq⟩ := List.mem_map.mp me
      have nt : e.t ≠ x := fun z => by have := cP e he; rw [z, ex'] at this; cases this
      exact ((at0 q hq).of eq s4 (by rw [upd_ne nt]; exact cP e he))
theorem sc_Plan_len : FnScope ["self"] ["self"] (defScope s_Plan_len) := ⟨rfl, rfl, rfl, by decide +kernel, rfl, by decide +kernel, by decide +kernel⟩
theorem ok_plen (D : MetK K PC "__len__" "Plan.__len__" s_Plan_len) (T : TxP K mg) (PT : PTx K mg PC) : Met P w K mg base CX0 1 PC "__len__" (spPLen PC C) := by
  refine D.met sc_Plan_len (fun _ _ _ _ _ _ us hl => match us, hl with | [_], _ => rfl) (fun vs H Q E h => ?_) fun f cdv A outer s H vs Q E hr h => ?_
  · obtain ⟨p, es, rfl, _⟩ := h; rfl
  · obtain ⟨p, es, rfl, ⟨⟨dx, l, e1, e2⟩, at_, ok⟩, k⟩ := h
    refine ⟨_, (pss_one (ps_ret (pe_callB call_len_seq (by rfl) T.b_len (by decide +kernel) (pa_cons (pe_fld (pv 0) rfl) pa_nil)))), ?_⟩
    refine ⟨_, rfl, p, PC, dx, _, .ref l, rfl, e1, PT.cl, PT.ne, get_e l, l, _, rfl, .inl (SqL.of e2), ?_⟩
    rw [show ((es.map Ed.v).length : Int) = (es.length : Int) by rw [List.length_map]]
    exact k
theorem sc_Plan_check : FnScope ["self", "number"] ["self", "number"] (defScope s_Plan_check) := ⟨rfl, rfl, rfl, by decide +kernel, rfl, by decide +kernel, by decide +kernel⟩
theorem ok_pcheck (D : MetK K PC "_check" "Plan._check" s_Plan_check) (T : TxP K mg) (PT : PTx K mg PC) (G_is_index : Cal P w K mg base CX0 3 "is_index" (spIdx K)) (G_UnknownEdition : ExnB P w K mg base 1 "UnknownEdition" CE (spX CE "number")) : Met P w K mg base (L2.CX P w) 4 PC "_check" (spPCheck K PC C CE) := by
  refine D.metX sc_Plan_check (fun _ _ _ _ _ _ us hl => match us, hl with | [_, _], _ => rfl) (fun vs H Q E h => ?_) fun f cdv A outer s H vs Q E hr h => ?_
  · obtain ⟨p, es, y, rfl, _⟩ := h; rfl
  · obtain ⟨p, es, y, rfl, ⟨⟨dx, l, e1, e2⟩, at_, ok⟩, k⟩ := h
    refine ⟨_, (pss_one (ps_if (pt_not (pt_val (pe_c G_is_index hr (by decide) rfl (pa_cons (pv 1) (pa_cons (pe_callB call_len_seq (by rfl) T.b_len (by decide +kernel) (pa_cons (pe_fld (pv 0) rfl) pa_nil)) pa_nil))))) (pss_one (ps_raise rfl (takes_of rfl rfl rfl rfl) (pmk_b G_UnknownEdition hr (by decide) rfl (pa_cons (pv 1) pa_nil)))) pss_nil)), ?_⟩
    have ln : ((es.map Ed.v).length : Int) = (es.length : Int) := by rw [List.length_map]
    refine ⟨_, rfl, _, rfl, p, PC, dx, _, .ref l, rfl, e1, PT.cl, PT.ne, get_e l, l, _, rfl, .inl (SqL.of e2), y, _, rfl, ?_⟩
    rw [ln]
    rcases k with ⟨n, rfl, lt, q⟩ | ⟨bad, k⟩
    · refine .inl ⟨n, rfl, _, rfl, ?_⟩
      rw [decide_eq_true (show (0 : Int) ≤ (n : Int) by omega), decide_eq_true (show (n : Int) ≤ (es.length : Int) - 1 by omega)]
      exact iteF q
    · rcases bad with ⟨i, rfl, e⟩ | no
      · refine .inl ⟨i, rfl, _, rfl, ?_⟩
        rw [e]
        exact iteT ⟨_, rfl, x_read fun d nd => k d _ nd (same_new nd) upd_same⟩
      · exact .inr ⟨no, _, rfl, iteT ⟨_, rfl, x_read fun d nd => k d _ nd (same_new nd) upd_same⟩⟩
theorem sc_Plan_moment_of : FnScope ["self", "number"] ["self", "number"] (defScope s_Plan_moment_of) := ⟨rfl, rfl, rfl, by decide +kernel, rfl, by decide +kernel, by decide +kernel⟩
theorem ok_pmo (D : MetK K PC "moment_of" "Plan.moment_of" s_Plan_moment_of) (T : TxP K mg) (PT : PTx K mg PC) (M_check : Met P w K mg base (L2.CX P w) 4 PC "_check" (spPCheck K PC C CE)) : Met P w K mg base (L2.CX P w) 5 PC "moment_of" (spPOf K PC C CE fun e => .int e.m) := by
  refine D.metX sc_Plan_moment_of (fun _ _ _ _ _ _ us hl => match us, hl with | [_, _], _ => rfl) (fun vs H Q E h => ?_) fun f cdv A outer s H vs Q E hr h => ?_
  · obtain ⟨p, es, y, rfl, _⟩ := h; rfl
  · obtain ⟨p, es, y, rfl, pl, k⟩ := h
    obtain ⟨⟨dx, l, e1, e2⟩, at_, ok⟩ := id pl
    refine ⟨_, (pss_cons (ps_expr (pe_mS M_check PT.cl (takes_of rfl rfl rfl rfl) hr (by decide) (pv 0) (pa_cons (pv 1) pa_nil)))
      (pss_one (ps_ret (pe_ix (r := rIxT K) ix_tup (pe_ix (r := rIxL K) ix_list (pe_fld (pv 0) rfl) (pv 1) (fun _ _ => rfl)) pe_int (fun _ _ => rfl))))), ?_⟩
    refine ⟨_, rfl, p, dx, _, rfl, e1, get_eno _ (by decide +kernel), _, rfl, p, es, y, rfl, pl, ?_⟩
    rcases k with ⟨n, e, rfl, en, q⟩ | ⟨bad, k⟩
    · refine .inl ⟨n, rfl, (List.getElem?_eq_some_iff.mp en).1, ?_⟩
      refine ⟨_, rfl, p, PC, dx, _, .ref l, rfl, e1, PT.cl, PT.ne, get_e l, _, rfl, l, _, _, .ref e.t, rfl, rfl, SqL.of e2, atI_nat (j := n) (ed_get en), e.t, _, _, _, rfl, rfl, SqT.of (at_ e (List.mem_of_getElem? en)).tp, atI_nat (j := 0) rfl, q⟩
    · exact .inr ⟨bad, fun d H' nd s2 ed => k d H' nd s2 ed⟩
theorem sc_Plan_contents_of : FnScope ["self", "number"] ["self", "number"] (defScope s_Plan_contents_of) := ⟨rfl, rfl, rfl, by decide +kernel, rfl, by decide +kernel, by decide +kernel⟩
theorem ok_pco (D : MetK K PC "contents_of" "Plan.contents_of" s_Plan_contents_of) (T : TxP K mg) (PT : PTx K mg PC) (M_check : Met P w K mg base (L2.CX P w) 4 PC "_check" (spPCheck K PC C CE)) : Met P w K mg base (L2.CX P w) 5 PC "contents_of" (spPOf K PC C CE fun e => .ref e.x) := by
  refine D.metX sc_Plan_contents_of (fun _ _ _ _ _ _ us hl => match us, hl with | [_, _], _ => rfl) (fun vs H Q E h => ?_) fun f cdv A outer s H vs Q E hr h => ?_
  · obtain ⟨p, es, y, rfl, _⟩ := h; rfl
  · obtain ⟨p, es, y, rfl, pl, k⟩ := h
    obtain ⟨⟨dx, l, e1, e2⟩, at_, ok⟩ := id pl
    refine ⟨_, (pss_cons (ps_expr (pe_mS M_check PT.cl (takes_of rfl rfl rfl rfl) hr (by decide) (pv 0) (pa_cons (pv 1) pa_nil)))
      (pss_one (ps_ret (pe_ix (r := rIxT K) ix_tup (pe_ix (r := rIxL K) ix_list (pe_fld (pv 0) rfl) (pv 1) (fun _ _ => rfl)) pe_int (fun _ _ => rfl))))), ?_⟩
    refine ⟨_, rfl, p, dx, _, rfl, e1, get_eno _ (by decide +kernel), _, rfl, p, es, y, rfl, pl, ?_⟩
    rcases k with ⟨n, e, rfl, en, q⟩ | ⟨bad, k⟩
    · refine .inl ⟨n, rfl, (List.getElem?_eq_some_iff.mp en).1, ?_⟩
      refine ⟨_, rfl, p, PC, dx, _, .ref l, rfl, e1, PT.cl, PT.ne, get_e l, _, rfl, l, _, _, .ref e.t, rfl, rfl, SqL.of e2, atI_nat (j := n) (ed_get en), e.t, _, _, _, rfl, rfl, SqT.of (at_ e (List.mem_of_getElem? en)).tp, atI_nat (j := 1) rfl, q⟩
    · exact .inr ⟨bad, fun d H' nd s2 ed => k d H' nd s2 ed⟩
theorem sc_Plan_moments : FnScope ["self", "moment", "_"] ["self"] (defScope s_Plan_moments) := ⟨rfl, rfl, rfl, by decide +kernel, rfl, by decide +kernel, by decide +kernel⟩
theorem ok_pmoms (D : MetK K PC "moments" "Plan.moments" s_Plan_moments) (PT : PTx K mg PC) : Met P w K mg base CX0 1 PC "moments" (spPMoms PC C) := by
  refine D.met sc_Plan_moments (fun _ _ _ _ _ _ us hl => match us, hl with | [_], _ => rfl) (fun vs H Q E h => ?_) fun f cdv A outer s H vs Q E hr h => ?_
  · obtain ⟨p, es, rfl, _⟩ := h; rfl
  · obtain ⟨p, es, rfl, ⟨⟨dx, l, e1, e2⟩, at_, ok⟩, k⟩ := h
    refine ⟨_, (pss_one (ps_ret (pe_lc (own := [("moment", 1), ("_", 2)]) (g := gTup K 2 (gCons (gName 1) (gCons (gName 2) gNil))) (by rfl) sc_Plan_moments.nd (pi_list (pe_fld (pv 0) rfl)) (blkOk_by (own := [("moment", 1), ("_", 2)]) (N := ["self", "moment", "_"]) (sc := defScope s_Plan_moments) (by decide +kernel)) (fun _ _ _ _ _ => pg_tup rfl (pgs_cons (pg_name (i := 1) sc_Plan_moments.nd rfl (Or.inl rfl)) (pgs_cons (pg_name (i := 2) sc_Plan_moments.nd rfl (Or.inl rfl)) pgs_nil))) (fun _ _ _ _ _ => pts_nil) (fun _ _ _ _ _ => (pv 1))))), ?_⟩
    refine ⟨_, rfl, p, PC, dx, _, .ref l, rfl, e1, PT.cl, PT.ne, get_e l, l, rfl, ⟨_, SqL.of e2⟩, fun D nD => ?_⟩
    refine lc_list (K := K) (a := l) (xs := es.map Ed.v) (fun i H' => H' D = some (.lst ((es.take i).map fun e => V.int e.m)) ∧ Same H H') ⟨upd_same, same_new nD⟩ (fun i H' _ ⟨_, s⟩ => SqL.of (s _ _ e2)) ?_ ?_
    · rintro i y H' hy ⟨eD, sP⟩
      obtain ⟨e, ee, rfl⟩ := ed_at hy
      have ae := (at_ e (List.mem_of_getElem? ee)).same sP
      have tk : es.take (i + 1) = es.take i ++ [e] := by rw [List.take_succ, ee]; rfl
      have pt : (es.take i).length ≤ es.length := List.length_take_le' i es
      have n7 := ok.n7
      refine ⟨e.t, _, rfl, SqT.of ae.tp, rfl, _, _, rfl, _, _, rfl, rfl, rfl, K26C.yes_if ?_⟩
      refine ⟨_, rfl, _, eD, by rw [List.length_map, sizeLine_eq]; omega, by rw [upd_same, tk, List.map_append]; rfl, same_mut sP nD⟩
    · rintro H' ⟨eD, sP⟩
      rw [show (es.map Ed.v).length = es.length by rw [List.length_map], List.take_length] at eD
      exact k D H' nD sP eD
end
end K26
namespace K26
open PySem PySem.Spec PyProof.Rows L2 Jg
local macro_rules | `(tactic| walk_at "rd1") => `(tactic| (first
  | refine ⟨_, rfl, ?_⟩
  | refine ⟨_, _, rfl, rfl, ?_⟩
  | refine ⟨_, _, rfl, ?_⟩
  | refine ⟨rfl, ?_⟩
  | (refine ⟨show (0 : Int) < _ by omega, ?_⟩)
  | (refine ⟨Or.inl ⟨by omega, by omega⟩, ?_⟩)
  | (refine ⟨Or.inr ⟨by omega, by omega⟩, ?_⟩)
  | (refine ⟨(⟨by decide, by decide, by decide⟩ : CPow _ _), ?_⟩)
  | refine Or.inl ⟨_, rfl, ?_⟩
  | refine Or.inr ⟨_, rfl, ?_⟩
  | fail "rd"))
local macro_rules | `(tactic| walk_at "rd") => `(tactic| repeat' walk_at "rd1")
def spanR (ms : List Int) (n : Nat) (d : Int) : Int × Int := K26R.mkR (ms.getD n 0) (if n + 1 = ms.length then none else some (ms.getD (n + 1) 0 + d))
theorem ms_at {ms : List Int} {n : Nat} (h : n < ms.length) : ms[n]? = some (ms.getD n 0) := by
  rw [List.getD_eq_getElem?_getD, List.getElem?_eq_getElem h]; rfl
theorem ms_vat {ms : List Int} {n : Nat} (h : n < ms.length) : (ms.map V.int)[n]? = some (V.int (ms.getD n 0)) := by rw [List.getElem?_map, ms_at h]; rfl
theorem ms_mem {ms : List Int} {n : Nat} (h : n < ms.length) : ms.getD n 0 ∈ ms := List.mem_of_getElem? (ms_at h)
def spSpan (RC : Addr) : Sp := fun vs H Q _ => ∃ l ms n d, vs = [.ref l, .int (n : Nat), .int d] ∧ H l = some (.lst (ms.map V.int)) ∧ n < ms.length ∧ (∀ m ∈ ms, K26R.Bnd m ∧ K26R.Bnd (m + d)) ∧
  ∀ x H', H x = none → Same H H' → K26R.RAt RC H' x (spanR ms n d) → Q (.ref x) H'
def spHSpan (RC : Addr) : Sp := fun vs H Q _ => ∃ l ms n d, vs = [.ref l, .int (n : Nat), .int d] ∧ H l = some (.lst (ms.map V.int)) ∧ n < ms.length ∧ (∀ m ∈ ms, K26R.Bnd m ∧ K26R.Bnd (m + (d - 2))) ∧
  ∀ x H', H x = none → Same H H' → K26R.RAt RC H' x (spanR ms n (d - 2)) → Q (.ref x) H'
section
variable {P : Program} {w : World} {K : PySem.W.Frag} {mg : Str → Option Value} {base : Heap} {C PC CU CE RC FC KC : Addr}
theorem sc_span : FnScope ["moments", "number", "delay"] ["moments", "number", "delay"] (defScope s_span) := ⟨rfl, rfl, rfl, by decide +kernel, rfl, by decide +kernel, by decide +kernel⟩
theorem ok_span (D : DefK K mg "span" s_span) (T : TxP K mg) (M_Range : Mak P w K mg base CX0 3 "Range" RC (K26R.spInit RC)) : Cal P w K mg base CX0 5 "span" (spSpan RC) := by
  refine D.cal sc_span (fun _ _ _ _ _ _ us hl => match us, hl with | [_, _, _], _ => rfl) (fun vs H Q E h => ?_) fun f cdv A outer s H vs Q E hr h => ?_
  · obtain ⟨l, ms, n, d, rfl, _⟩ := h; rfl
  · obtain ⟨l, ms, n, d, rfl, el, lt, bd, k⟩ := h
    refine ⟨_, (pss_cons (ps_if (pt_cmpR op_eq (pe_op op_add (pv 1) pe_int) (pe_callB call_len_seq (by rfl) T.b_len (by decide +kernel) (pa_cons (pv 0) pa_nil)) (nomark _)) (pss_one (ps_ret (pe_mk M_Range hr (by decide) rfl (pa_cons (pe_ix (r := rIxL K) ix_list (pv 0) (pv 1) (fun _ _ => rfl)) (pa_cons pe_non pa_nil))))) pss_nil)
      (pss_one (ps_ret (pe_mk M_Range hr (by decide) rfl (pa_cons (pe_ix (r := rIxL K) ix_list (pv 0) (pv 1) (fun _ _ => rfl)) (pa_cons (pe_op op_add (pe_ix (r := rIxL K) ix_list (pv 0) (pe_op op_add (pv 1) pe_int) (fun _ _ => rfl)) (pv 2)) pa_nil)))))), ?_⟩
    have SL : SqL K H l (ms.map V.int) := SqL.of el
    have B1 := (bd _ (ms_mem lt)).1
    refine ⟨_, rfl, _, _, rfl, rfl, _, rfl, l, _, rfl, .inl SL, rfl, _, rfl, ?_⟩
    have ln : ((ms.map V.int).length : Int) = (ms.length : Int) := by rw [List.length_map]
    rw [ln]
    by_cases c : n + 1 = ms.length
    · have e : spanR ms n d = K26R.mkR (ms.getD n 0) none := by unfold spanR; rw [if_pos c]
      refine iteTe (decide_eq_true (by show V.int ((n : Int) + 1) = V.int (ms.length : Int); rw [← c]; rfl)) ?_
      refine ⟨_, rfl, _, rfl, l, _, _, _, rfl, rfl, SL, atI_nat (j := n) (ms_vat lt), fun x dx nx ndx nex => ⟨x, dx, _, none, rfl, upd_same, B1, trivial, fun H1 R kp => ⟨rfl, ?_⟩⟩⟩
      exact k x H1 nx (Same.made nx ndx kp) (e ▸ R)
    · have e : spanR ms n d = K26R.mkR (ms.getD n 0) (some (ms.getD (n + 1) 0 + d)) := by unfold spanR; rw [if_neg c]
      have lt2 : n + 1 < ms.length := by omega
      have B2 := (bd _ (ms_mem lt2)).2
      refine iteFe (decide_eq_false fun z => c (by have := V.int.inj z; omega)) ?_
      refine ⟨_, rfl, _, rfl, l, _, _, _, rfl, rfl, SL, atI_nat (j := n) (ms_vat lt), ?_⟩
      refine ⟨_, rfl, _, rfl, _, _, rfl, rfl, l, _, _, _, rfl, rfl, SL, atI_nat (j := n + 1) (ms_vat lt2), _, rfl, _, _, rfl, rfl, fun x dx nx ndx nex => ⟨x, dx, _, some _, rfl, upd_same, B1, B2, fun H1 R kp => ⟨rfl, ?_⟩⟩⟩
      exact k x H1 nx (Same.made nx ndx kp) (e ▸ R)
theorem sc_held_span : FnScope ["moments", "number", "lateness"] ["moments", "number", "lateness"] (defScope s_held_span) := ⟨rfl, rfl, rfl, by decide +kernel, rfl, by decide +kernel, by decide +kernel⟩
theorem ok_hspan (D : DefK K mg "held_span" s_held_span) (G_span : Cal P w K mg base CX0 5 "span" (spSpan RC)) : Cal P w K mg base CX0 6 "held_span" (spHSpan RC) := by
  refine D.cal sc_held_span (fun _ _ _ _ _ _ us hl => match us, hl with | [_, _, _], _ => rfl) (fun vs H Q E h => ?_) fun f cdv A outer s H vs Q E hr h => ?_
  · obtain ⟨l, ms, n, d, rfl, _⟩ := h; rfl
  · obtain ⟨l, ms, n, d, rfl, el, lt, bd, k⟩ := h
    refine ⟨_, (pss_one (ps_ret (pe_c G_span hr (by decide) rfl (pa_cons (pv 0) (pa_cons (pv 1) (pa_cons (pe_op op_sub (pv 2) pe_int) pa_nil)))))), ?_⟩
    exact ⟨_, rfl, _, rfl, _, rfl, _, _, rfl, rfl, l, ms, n, d - 2, rfl, el, lt, bd, k⟩
end
theorem missR_at {cl : List Cl} {zs : List Str} {i : Nat} {q : Cl} (h : cl[i]? = some q) (b : ∀ p ∈ cl.take i, p.z ∈ zs) (n : q.z ∉ zs) : missR cl zs = some q.z := by
  obtain ⟨lt, e⟩ := List.getElem?_eq_some_iff.mp h
  have f : cl.find? (fun q => !decide (q.z ∈ zs)) = some q := by
    refine List.find?_eq_some_iff_append.mpr ⟨by rw [decide_eq_false n]; rfl, cl.take i, cl.drop (i + 1), ?_, fun a ha => by rw [decide_eq_true (b a ha)]; rfl⟩
    rw [← e, ← List.drop_eq_getElem_cons lt, List.take_append_drop]
  unfold missR
  rw [f]; rfl
theorem missR_no {cl : List Cl} {zs : List Str} (b : ∀ p ∈ cl, p.z ∈ zs) : missR cl zs = none := by
  unfold missR
  rw [List.find?_eq_none.mpr fun q hq => by rw [decide_eq_true (b q hq)]; decide]; rfl
def spChR (C FC KC CU : Addr) : Sp := fun vs H Q E => ∃ x c S f ks cl, vs = [.ref x, .ref f] ∧ K26C.CAt S C H x c ∧ FlAt FC KC H f ks cl ∧
  ((missR cl (c.us.map (·.z)) = none ∧ ∀ H', Same H H' → Q .non H') ∨ ∃ z, missR cl (c.us.map (·.z)) = some z ∧ ∀ d H', H d = none → Same H H' → H' d = some (.xd [(("name" : Str), .str z)]) → E (.ref CU) (some d) H')
section
variable {P : Program} {w : World} {K : PySem.W.Frag} {mg : Str → Option Value} {base : Heap} {C PC CU CE RC FC KC : Addr}
theorem sc_check_roles : FnScope ["contents", "fleet", "role", "_"] ["contents", "fleet"] (defScope s_check_roles) := ⟨rfl, rfl, rfl, by decide +kernel, rfl, by decide +kernel, by decide +kernel⟩
theorem ok_chr (D : DefK K mg "check_roles" s_check_roles) (J : K26C.CTx K mg C) (TF : K26F.FTx K mg FC) (M_calls : Met P w K mg base CX0 1 FC "calls" (K26F.spCalls FC KC)) (P_roles : Prp P w K mg base CX0 1 C "roles" (K26C.spLst C fun c => c.us.map (·.z)))
    (G_UnknownName : ExnB P w K mg base 1 "UnknownName" CU (spX CU "name")) : Cal P w K mg base (L2.CX P w) 3 "check_roles" (spChR C FC KC CU) := by
  refine D.calX sc_check_roles (fun _ _ _ _ _ _ us hl => match us, hl with | [_, _], _ => rfl) (fun vs H Q E h => ?_) fun f0 cdv A outer s H vs Q E hr h => ?_
  · obtain ⟨x, c, S, f, ks, cl, rfl, _⟩ := h; rfl
  · obtain ⟨x, c, S, f, ks, cl, rfl, at_, fl, k⟩ := h
    refine ⟨_, (pss_one (ps_for (passes_of rfl) rfl (pi_list (pe_mz M_calls TF.cl hr (by decide) (pv 1))) (pg_tup rfl (pgs_cons (pg_name (i := 2) sc_check_roles.nd rfl (Or.inl rfl)) (pgs_cons (pg_name (i := 3) sc_check_roles.nd rfl (Or.inl rfl)) (pgs_cons (pg_name (i := 3) sc_check_roles.nd rfl (Or.inl rfl)) (pgs_cons (pg_name (i := 3) sc_check_roles.nd rfl (Or.inl rfl)) pgs_nil))))) (pss_one (ps_if (pt_cmpR (r := rIn K true) op_notIn_seq (pv 2) (pe_p P_roles J.cl hr (by decide) (pv 0)) rfl) (pss_one (ps_raise rfl (takes_of rfl rfl rfl rfl) (pmk_b G_UnknownName hr (by decide) rfl (pa_cons (pv 2) pa_nil)))) pss_nil)))), ?_⟩
    obtain ⟨d, cc, fa⟩ := id fl.ex
    obtain ⟨dx, ef⟩ := id fa.at_
    refine ⟨_, rfl, f, dx, _, rfl, ef, K26F.get_fno _ _ (by decide +kernel) (by decide +kernel), f, d, cc, ks, _, rfl, fa, fun l nl => ?_⟩
    have s1 := same_new (o := .lst (cl.map fun q => V.ref q.t)) nl
    have el : upd H l (.lst (cl.map fun q => V.ref q.t)) l = _ := upd_same
    generalize upd H l (.lst (cl.map fun q => V.ref q.t)) = H1 at *
    refine ⟨l, rfl, ⟨_, SqL.of el⟩, for_list (K := K) (a := l) (xs := cl.map fun q => V.ref q.t) (fun i σ' H' => (∃ v2 v3, σ' = [some (.ref x), some (.ref f), v2, v3]) ∧ Same H1 H' ∧ ∀ q ∈ cl.take i, q.z ∈ c.us.map (·.z)) ⟨⟨_, _, rfl⟩, .refl _, fun _ h => nomatch h⟩ (fun i _ H' _ ⟨_, s', _⟩ => SqL.of (s' _ _ el)) ?_ ?_⟩
    · rintro i y σ' H' hy ⟨⟨v2, v3, rfl⟩, s', bf⟩
      obtain ⟨q, eq, rfl⟩ : ∃ q, cl[i]? = some q ∧ y = .ref q.t := by
        rw [List.getElem?_map] at hy
        cases c9 : cl[i]? with
        | none => rw [c9] at hy; cases hy
        | some q => rw [c9] at hy; exact ⟨q, rfl, (Option.some.inj hy).symm⟩
      have s2 := s1.trans s'
      refine ⟨q.t, _, rfl, SqT.of (s2 _ _ (fl.tp q (List.mem_of_getElem? eq))), rfl, _, _, rfl, _, _, rfl, _, _, rfl, _, _, rfl, rfl, ?_⟩
      obtain ⟨⟨dx2, d2, v, sg, ex, _⟩, _⟩ := id at_
      refine ⟨_, rfl, _, rfl, x, dx2, _, rfl, s2 _ _ ex, x, c, S, rfl, at_.same s2, fun p np => ?_⟩
      have s3 := same_new (o := .lst ((c.us.map (·.z)).map V.str)) np
      refine ask_notInS (xs := c.us.map (·.z)) (SqL.of upd_same) ⟨_, rfl, ?_⟩
      by_cases m : q.z ∈ c.us.map (·.z)
      · rw [decide_eq_true m]
        refine iteF ⟨⟨_, _, rfl⟩, s'.trans s3, fun p hp => ?_⟩
        rw [show cl.take (i + 1) = cl.take i ++ [q] by rw [List.take_succ, eq]; rfl] at hp
        rcases List.mem_append.mp hp with hp | hp
        · exact bf p hp
        · obtain rfl := List.mem_singleton.mp hp
          exact m
      · rw [decide_eq_false m]
        have ms := missR_at eq bf m
        rcases k with ⟨no, _⟩ | ⟨z, e, k⟩
        · rw [ms] at no; cases no
        · rw [ms] at e
          cases e
          exact iteT ⟨_, rfl, x_read fun d3 nd => k d3 _ (s2.free (s3.free nd)) ((s2.trans s3).trans (same_new nd)) upd_same⟩
    · rintro σ' H' ⟨_, s', bf⟩
      rw [show (cl.map fun q => V.ref q.t).length = cl.length by rw [List.length_map], List.take_length] at bf
      rcases k with ⟨_, k⟩ | ⟨z, e, _⟩
      · exact k _ (s1.trans s')
      · rw [missR_no bf] at e; cases e
end
end K26
namespace K26
open PySem PySem.Spec PyProof.Rows L2 Jg
local macro_rules | `(tactic| walk_at "rd1") => `(tactic| (first
  | refine ⟨_, rfl, ?_⟩
  | refine ⟨_, _, rfl, rfl, ?_⟩
  | refine ⟨_, _, rfl, ?_⟩
  | refine ⟨rfl, ?_⟩
  | (refine ⟨show (0 : Int) < _ by omega, ?_⟩)
  | (refine ⟨Or.inl ⟨by omega, by omega⟩, ?_⟩)
  | (refine ⟨Or.inr ⟨by omega, by omega⟩, ?_⟩)
  | (refine ⟨(⟨by decide, by decide, by decide⟩ : CPow _ _), ?_⟩)
  | refine Or.inl ⟨_, rfl, ?_⟩
  | refine Or.inr ⟨_, rfl, ?_⟩
  | fail "rd"))
local macro_rules | `(tactic| walk_at "rd") => `(tactic| repeat' walk_at "rd1")
def Askd (K : PySem.W.Frag) (CU : Addr) (H : Hp) (zs : List Str) (cl : List Cl) (ks : K26F.Ks) (y : V) (E : XK) (k : Str → Prop) : Prop :=
  (∃ z, missR cl zs = some z ∧ ∀ d H', H d = none → Same H H' → H' d = some (.xd [(("name" : Str), .str z)]) → E (.ref CU) (some d) H') ∨ (missR cl zs = none ∧
    ((K26F.NoKind K H ks y ∧ ∀ d H', H d = none → Same H H' → H' d = some (.xd [(("name" : Str), y)]) → E (.ref CU) (some d) H') ∨ ∃ z, y = .str z ∧ z ∈ ks.map (·.1) ∧ k z))
theorem rng_yes {p : Nat → Bool} {i : Nat} (h : p i = true) : (List.range (i + 1)).filter p = (List.range i).filter p ++ [i] := by
  rw [List.range_succ, List.filter_append, List.filter_cons_of_pos h, List.filter_nil]
theorem rng_no {p : Nat → Bool} {i : Nat} (h : p i = false) : (List.range (i + 1)).filter p = (List.range i).filter p := by
  rw [List.range_succ, List.filter_append, List.filter_cons_of_neg (by rw [h]; decide), List.filter_nil, List.append_nil]
end K26
namespace K26
open PySem PySem.Spec PyProof.Rows L2 Jg
local macro_rules | `(tactic| walk_at "rd1") => `(tactic| (first
  | refine ⟨_, rfl, ?_⟩
  | refine ⟨_, _, rfl, rfl, ?_⟩
  | refine ⟨_, _, rfl, ?_⟩
  | refine ⟨rfl, ?_⟩
  | (refine ⟨show (0 : Int) < _ by omega, ?_⟩)
  | (refine ⟨Or.inl ⟨by omega, by omega⟩, ?_⟩)
  | (refine ⟨Or.inr ⟨by omega, by omega⟩, ?_⟩)
  | (refine ⟨(⟨by decide, by decide, by decide⟩ : CPow _ _), ?_⟩)
  | refine Or.inl ⟨_, rfl, ?_⟩
  | refine Or.inr ⟨_, rfl, ?_⟩
  | fail "rd"))
local macro_rules | `(tactic| walk_at "rd") => `(tactic| repeat' walk_at "rd1")
open K26C (StA SameB spDr spCh use_choose spWords Wd)
theorem use_drawB {H : Hp} {p : Addr} {n : Int} {Q : VK} {E : XK} (st : StA H p) (h1 : 0 < n) (h2 : n.natAbs < 2 ^ 300) (k : ∀ v H', 0 ≤ v → v < n → StA H' p → SameB p H H' → Q (.int v) H') : spDr [.ref p, .int n] H Q E := by
  unfold spDr
  obtain ⟨a, b, e, ha⟩ := st
  exact ⟨p, a, b, n, rfl, e, ha, h1, h2, fun v a' b' v0 v1 h => k v _ v0 v1 ⟨a', b', upd_same, h⟩ (SameB.refl _ _).mut⟩
theorem s0_big {n : Int} (h0 : 0 < n) (h : n ≤ S0) : n.natAbs < 2 ^ 300 := by
  have b : (n.natAbs : Int) ≤ S0 := by omega
  have c : S0 < ((2 ^ 300 : Nat) : Int) := by decide +kernel
  exact Int.ofNat_lt.mp (Int.lt_of_le_of_lt b c)
theorem MsI.one {m : Int} (h0 : 0 ≤ m) (h1 : m ≤ 5) : MsI [m] := by
  refine ⟨fun j x e => ?_, fun i a b e1 e2 => ?_⟩
  · match j, e with
    | 0, e => cases Option.some.inj e; exact ⟨h0, by omega⟩
  · simp at e2
theorem MsI.more {ini : List Int} {m x : Int} (h : MsI (ini ++ [m])) (lt : m < x) (le : x ≤ m + S0) : MsI (ini ++ [m] ++ [x]) := by
  have ln : (ini ++ [m]).length = ini.length + 1 := by rw [List.length_append]; rfl
  have em : (ini ++ [m])[ini.length]? = some m := by rw [List.getElem?_append_right (Nat.le_refl _)]; simp
  have bm := h.lo _ _ em
  refine ⟨fun j y e => ?_, fun i a b e1 e2 => ?_⟩
  · by_cases c : j < (ini ++ [m]).length
    · rw [List.getElem?_append_left c] at e; exact h.lo j y e
    · have l2 := (List.getElem?_eq_some_iff.mp e).1
      rw [List.length_append] at l2
      have ej : j = ini.length + 1 := by have : j < (ini ++ [m]).length + 1 := l2; omega
      subst ej
      rw [← ln, List.getElem?_append_right (Nat.le_refl _), Nat.sub_self] at e
      cases Option.some.inj e
      refine ⟨by omega, ?_⟩
      have z : ((ini.length + 1 : Nat) : Int) * S0 = (ini.length : Int) * S0 + S0 := by rw [Int.natCast_add, Int.add_mul]; rw [show ((1 : Nat) : Int) = 1 from rfl, Int.one_mul]
      rw [z]; omega
  · by_cases c : i + 1 < (ini ++ [m]).length
    · rw [List.getElem?_append_left c] at e2
      rw [List.getElem?_append_left (by omega)] at e1
      exact h.inc i a b e1 e2
    · have l2 := (List.getElem?_eq_some_iff.mp e2).1
      rw [List.length_append] at l2
      have ei : i = ini.length := by have : i + 1 < (ini ++ [m]).length + 1 := l2; omega
      subst ei
      rw [List.getElem?_append_left (by omega), em] at e1
      rw [← ln, List.getElem?_append_right (Nat.le_refl _), Nat.sub_self] at e2
      cases Option.some.inj e1
      cases Option.some.inj e2
      exact lt
def Ms0 (ms : List Int) : Prop := MsOk ms ∧ ∀ m ∈ ms, m ≤ 5 * 10 ^ 31
theorem MsI.ok0 {ms : List Int} (h : MsI ms) (l : ms.length ≤ 7) : Ms0 ms := ⟨h.ok l, fun m hm => by
  obtain ⟨j, lt, e⟩ := List.getElem_of_mem hm
  have z := h.lo j m (by rw [List.getElem?_eq_getElem lt, e])
  have a : (j : Int) * S0 ≤ 7 * S0 := Int.mul_le_mul_of_nonneg_right (by omega) (by decide +kernel)
  have b : 5 + 7 * S0 ≤ 5 * 10 ^ 31 := by decide +kernel
  omega⟩
@[irreducible] def spMoments : Sp := fun vs H Q _ => ∃ (p : Addr) (n : Nat) (st : Int), vs = [.ref p, .int (n : Nat), .int st] ∧ StA H p ∧ 1 ≤ n ∧ n ≤ 7 ∧ 0 < st ∧ st ≤ 3 * 10 ^ 30 ∧
  ∀ (l : Addr) (ms : List Int) (H' : Hp), H l = none → l ≠ p → ms.length = n → Ms0 ms → H' l = some (.lst (ms.map V.int)) → StA H' p → SameB p H H' → Q (.ref l) H'
theorem KrOk.more {kr : List KRow} {k : KRow} (h : KrOk kr) (nd : k.z ∉ kr.map (·.z)) (wd : Wd k.z) (g : 1 ≤ k.r.g ∧ k.r.g ≤ 10 ^ 30) (a : ∀ a, k.r.a = some a → 0 ≤ a ∧ a ≤ 10 ^ 30) (sr : ∀ z, k.r.s = some z → z ∈ kr.map (·.z)) : KrOk (kr ++ [k]) := by
  have m1 : ∀ {q : KRow}, q ∈ kr ++ [k] → q ∈ kr ∨ q = k := fun hq => (List.mem_append.mp hq).imp id List.mem_singleton.mp
  refine ⟨?_, fun q hq => ?_, fun q hq => ?_, fun q hq => ?_, fun i q z e hs => ?_⟩
  · rw [List.map_append]
    exact List.nodup_append.mpr ⟨h.nd, by simp, fun a ha b hb e => nd (by rw [← List.mem_singleton.mp (show b ∈ [k.z] from hb), ← e]; exact ha)⟩
  · rcases m1 hq with hq | rfl
    · exact h.wd q hq
    · exact wd
  · rcases m1 hq with hq | rfl
    · exact h.g q hq
    · exact g
  · rcases m1 hq with hq | rfl
    · exact h.a q hq
    · exact a
  · by_cases c : i < kr.length
    · rw [List.getElem?_append_left c] at e
      rw [List.take_append_of_le_length (by omega)]
      exact h.s i q z e hs
    · have l2 := (List.getElem?_eq_some_iff.mp e).1
      rw [List.length_append] at l2
      have ei : i = kr.length := by have : i < kr.length + 1 := l2; omega
      subst ei
      rw [List.getElem?_append_right (Nat.le_refl _), Nat.sub_self] at e
      cases Option.some.inj e
      rw [List.take_append_of_le_length (Nat.le_refl _), List.take_length]
      exact sr z hs
@[irreducible] def spKinds : Sp := fun vs H Q _ => ∃ (p : Addr) (n : Nat) (sp ag : Int), vs = [.ref p, .int (n : Nat), .int sp, .int ag] ∧ StA H p ∧ n ≤ 5 ∧ 0 < sp ∧ sp ≤ 10 ^ 30 ∧ 0 < ag ∧ ag ≤ 10 ^ 30 ∧
  ∀ (l : Addr) (kr : List KRow) (H' : Hp), H l = none → l ≠ p → kr.length = n → KrOk kr → H' l = some (.lst (kr.map fun k => V.ref k.t)) → (∀ k ∈ kr, KrAt H' k) → StA H' p → SameB p H H' → Q (.ref l) H'
structure ClOk (parts names : List Str) (cl : List Cl) : Prop where
  z : ∀ q ∈ cl, q.z ∈ parts
  ab : ∀ q ∈ cl, q.a ∈ names ∧ q.b ∈ names
  i : ∀ q ∈ cl, 0 ≤ q.i ∧ q.i < 10 ^ 30
theorem ClAt.mut {H H' : Hp} {f : Addr} {xs : List V} {o : HO} {k : Cl} (h : ClAt H k) (ef : H f = some (.lst xs)) (s : Same H H') : ClAt (upd H' f o) k := by
  have n : k.t ≠ f := fun z => by unfold ClAt at h; rw [z, ef] at h; cases h
  unfold ClAt
  rw [upd_ne n]
  exact s _ _ h
theorem KrAt.mut {H H' : Hp} {f : Addr} {xs : List V} {o : HO} {k : KRow} (h : KrAt H k) (ef : H f = some (.lst xs)) (s : Same H H') : KrAt (upd H' f o) k := by
  have n : k.t ≠ f := fun z => by unfold KrAt at h; rw [z, ef] at h; cases h
  unfold KrAt
  rw [upd_ne n]
  exact s _ _ h
@[irreducible] def spCallsD (K : PySem.W.Frag) : Sp := fun vs H Q _ => ∃ (p : Addr) (n : Nat) (l1 l2 : Addr) (parts : List Str) (kr : List KRow) (kp : Int), vs = [.ref p, .int (n : Nat), .ref l1, .ref l2, .int kp] ∧ StA H p ∧ n ≤ 6 ∧ H l1 = some (.lst (parts.map V.str)) ∧ 0 < parts.length ∧ parts.length ≤ 100 ∧
  H l2 = some (.lst (kr.map fun k => V.ref k.t)) ∧ (∀ k ∈ kr, KrAt H k) ∧ 0 < kr.length ∧ kr.length ≤ 100 ∧ 0 < kp ∧ kp ≤ 10 ^ 30 ∧
  ∀ (l : Addr) (cl : List Cl) (H' : Hp), H l = none → l ≠ p → cl.length = n → ClOk parts (kr.map (·.z)) cl → H' l = some (.lst (cl.map fun q => V.ref q.t)) → (∀ q ∈ cl, ClAt H' q) → StA H' p → SameB p H H' → Q (.ref l) H'
section
variable {P : Program} {w : World} {K : PySem.W.Frag} {mg : Str → Option Value} {base : Heap}
theorem sc_law_moments : FnScope ["stream", "count", "steps", "found", "turn"] ["stream", "count", "steps"] (defScope s_law_moments) := ⟨rfl, rfl, rfl, by decide +kernel, rfl, by decide +kernel, by decide +kernel⟩
theorem ok_moments (D : DefK K mg "_law_moments" s_law_moments) (T : TxP K mg) (G_law_draw : Cal P w K mg base CX0 1 "_law_draw" spDr) : Cal P w K mg base CX0 2 "_law_moments" spMoments := by
  refine D.cal sc_law_moments (fun _ _ _ _ _ _ us hl => match us, hl with | [_, _, _], _ => rfl) (fun vs H Q E h => ?_) fun f cdv A outer s H vs Q E hr h => ?_
  · unfold spMoments at h; obtain ⟨p, n, st, rfl, _⟩ := h; rfl
  · unfold spMoments at h; obtain ⟨p, n, st, rfl, sA, n1, n7, st0, st1, k⟩ := h
    refine ⟨_, (pss_cons (ps_set (i := 3) sc_law_moments.nd rfl (Or.inl rfl) (pe_lst (pa_cons (pe_c G_law_draw hr (by decide) rfl (pa_cons (pv 0) (pa_cons pe_int pa_nil))) pa_nil)))
      (pss_cons (ps_for PassesOwn.never rfl (pi_range1 (by rfl) T.b_range (pa_cons (pe_op op_sub (pv 1) pe_int) pa_nil)) (pg_name (i := 4) sc_law_moments.nd rfl (Or.inl rfl)) (pss_one (ps_expr (pe_bm F.plainAttrs_list F.slot_list_append F.type_list_append mt_append (pv 3) (pa_cons (pe_op op_add (pe_op op_add (pe_ix (r := rIxL K) ix_list (pv 3) (pe_un un_neg pe_int) (fun _ _ => rfl)) pe_int) (pe_c G_law_draw hr (by decide) rfl (pa_cons (pv 0) (pa_cons (pv 2) pa_nil)))) pa_nil)))))
      (pss_one (ps_ret (pv 3))))), ?_⟩
    have s3b : (3 * 10 ^ 30 : Int) + 1 ≤ S0 := by decide +kernel
    have stB : st.natAbs < 2 ^ 300 := s0_big st0 (Int.le_trans st1 (by decide +kernel))
    refine ⟨_, rfl, use_drawB sA (by decide) (by decide +kernel) fun v0 H1 a0 a1 st1 s1 => ⟨by show 1 ≤ sizeLine; decide, fun f nf => ?_⟩⟩
    have fp : f ≠ p := st1.ne nf
    have ef : upd H1 f (.lst [.int v0]) f = some (.lst [.int v0]) := upd_same
    have sf := same_new (o := .lst [.int v0]) nf
    have nfH : H f = none := s1.free nf fp
    have st2 := st1.keep sf
    have s2 := s1.trans (SameB.of sf)
    generalize upd H1 f (.lst [.int v0]) = H2 at *
    refine ⟨_, rfl, _, _, rfl, rfl, _, rfl, by omega, by omega, ?_⟩
    refine for_range (lo := 0) (fun i sg Hi => ∃ (v4 : Option V) (ini : List Int) (m : Int), sg = [some (.ref p), some (.int n), some (.int st), some (.ref f), v4] ∧ StA Hi p ∧ SameB p H Hi ∧ Hi f = some (.lst ((ini ++ [m]).map V.int)) ∧ ini.length = i ∧ MsI (ini ++ [m])) ⟨_, [], v0, rfl, st2, s2, ef, rfl, MsI.one a0 (by omega)⟩ ?_ ?_
    · rintro i sg Hi hi ⟨v4, ini, m, rfl, sti, si, efi, il, im⟩
      refine ⟨_, rfl, .inl ⟨rfl, _, .inl (.inl efi)⟩, _, rfl, _, rfl, f, _, _, _, rfl, rfl, SqL.of efi, by rw [List.map_append]; exact atI_last _ _, _, _, rfl, rfl, _, rfl, _, rfl, use_drawB sti st0 stB fun v Hb b0 b1 stb sb => ⟨_, _, rfl, rfl, f, _, _, rfl, rfl, sb _ _ efi fp, by rw [List.length_map, List.length_append, il, sizeLine_eq]; show i + 1 < _; omega, ?_⟩⟩
      refine ⟨_, ini ++ [m], m + 1 + v, rfl, ?_, fun q o e nn => by rw [upd_ne (ne_of_none e nfH)]; exact sb _ _ (si _ _ e nn) nn, by rw [upd_same]; exact congrArg (fun z => some (HO.lst z)) (List.map_append (f := V.int) (l₁ := ini ++ [m]) (l₂ := [m + 1 + v])).symm, by rw [List.length_append, il]; rfl, im.more (by omega) (by omega)⟩
      obtain ⟨a, b, e, h⟩ := stb
      exact ⟨a, b, by rw [upd_ne fp.symm]; exact e, h⟩
    · rintro sg Hi ⟨v4, ini, m, rfl, sti, si, efi, il, im⟩
      exact ⟨_, rfl, k f (ini ++ [m]) Hi nfH fp (by rw [List.length_append, il]; show _ + 1 = n; omega) (im.ok0 (by rw [List.length_append, il]; show _ + 1 ≤ 7; omega)) efi sti si⟩
theorem sc_law_kinds : FnScope ["stream", "count", "spans", "ages", "at", "names", "found", "span_v", "aged"] ["stream", "count", "spans", "ages"] (defScope s_law_kinds) := ⟨rfl, rfl, rfl, by decide +kernel, rfl, by decide +kernel, by decide +kernel⟩
theorem ok_kinds (D : DefK K mg "_law_kinds" s_law_kinds) (T : TxP K mg) (G_law_draw : Cal P w K mg base CX0 1 "_law_draw" spDr) (G_law_choose : Cal P w K mg base CX0 2 "_law_choose" (spCh K)) (G_law_words : Cal P w K mg base CX0 3 "_law_words" spWords) : Cal P w K mg base CX0 4 "_law_kinds" spKinds := by
  refine D.cal sc_law_kinds (fun _ _ _ _ _ _ us hl => match us, hl with | [_, _, _, _], _ => rfl) (fun vs H Q E h => ?_) fun f cdv A outer s H vs Q E hr h => ?_
  · unfold spKinds at h; obtain ⟨p, n, sp, ag, rfl, _⟩ := h; rfl
  · unfold spKinds at h; obtain ⟨p, n, sp, ag, rfl, sA, n5, sp0, sp1, ag0, ag1, k⟩ := h
    refine ⟨_, (pss_cons (ps_par (i := 5) (j := 6) (by rfl) sc_law_kinds.nd rfl rfl (by decide) rfl rfl (pa_cons (pe_c G_law_words hr (by decide) rfl (pa_cons (pv 0) (pa_cons pe_int pa_nil))) (pa_cons (pe_lst pa_nil) pa_nil)) (by rfl))
      (pss_cons (ps_for PassesOwn.never rfl (pi_range1 (by rfl) T.b_range (pa_cons (pv 1) pa_nil)) (pg_name (i := 4) sc_law_kinds.nd rfl (Or.inl rfl)) (pss_cons (ps_par (i := 7) (j := 8) (by rfl) sc_law_kinds.nd rfl rfl (by decide) rfl rfl (pa_cons (pe_op op_add pe_int (pe_c G_law_draw hr (by decide) rfl (pa_cons (pv 0) (pa_cons (pv 2) pa_nil)))) (pa_cons pe_non pa_nil)) (by rfl))
      (C8.pss_cut (ps_if (pt_cmpR op_eq (pe_c G_law_draw hr (by decide) rfl (pa_cons (pv 0) (pa_cons pe_int pa_nil))) pe_int (nomark _)) (pss_one (ps_set (i := 8) sc_law_kinds.nd rfl (Or.inl rfl) (pe_c G_law_draw hr (by decide) rfl (pa_cons (pv 0) (pa_cons (pv 3) pa_nil))))) pss_nil)
      (pss_one (ps_expr (pe_bm F.plainAttrs_list F.slot_list_append F.type_list_append mt_append (pv 6) (pa_cons (pe_tup (pa_cons (pe_ix (r := rIxL K) ix_list (pv 5) (pv 4) (fun _ _ => rfl)) (pa_cons (pv 7) (pa_cons (pv 8) (pa_cons (pe_c G_law_choose hr (by decide) rfl (pa_cons (pv 0) (pa_cons (pe_op op_cat (pe_lst (pa_cons pe_non pa_nil)) (pe_slice sl_list (pv 5) po_none (po_some (pv 4)))) pa_nil))) pa_nil))))) pa_nil)))))))
      (pss_one (ps_ret (pv 6))))), ?_⟩
    have spB : sp.natAbs < 2 ^ 300 := s0_big sp0 (Int.le_trans sp1 (by decide +kernel))
    have agB : ag.natAbs < 2 ^ 300 := s0_big ag0 (Int.le_trans ag1 (by decide +kernel))
    refine ⟨_, rfl, p, 5, rfl, by decide, by decide, sA, fun ln ws H1 nl lp wl wd wn el st1 s1 => ⟨by show 0 ≤ sizeLine; decide, fun f nf => ⟨_, _, rfl, ?_⟩⟩⟩
    have fp : f ≠ p := st1.ne nf
    have fl : f ≠ ln := fun z => by rw [z, el] at nf; cases nf
    have nfH : H f = none := s1.free nf fp
    have w5 : ws.length = 5 := wl
    have sf := same_new (o := .lst []) nf
    refine ⟨_, rfl, n, rfl, by omega, by omega, ?_⟩
    rw [Int.toNat_natCast]
    refine for_range (lo := 0) (fun i sg Hi => ∃ (v4 v7 v8 : Option V) (kr : List KRow), sg = [some (.ref p), some (.int n), some (.int sp), some (.int ag), v4, some (.ref ln), some (.ref f), v7, v8] ∧ StA Hi p ∧ SameB p H1 Hi ∧ Hi f = some (.lst (kr.map fun q => V.ref q.t)) ∧ kr.length = i ∧ kr.map (·.z) = ws.take i ∧ KrOk kr ∧ ∀ q ∈ kr, KrAt Hi q)
      ⟨_, _, _, [], rfl, st1.keep sf, SameB.of sf, upd_same, rfl, rfl, KrOk.nil, fun _ h => nomatch h⟩ ?_ ?_
    · rintro i sg Hi hi ⟨v4, v7, v8, kr, rfl, sti, si, efi, il, kz, ko, ka⟩
      refine ⟨_, rfl, _, rfl, use_drawB sti sp0 spB fun g Ha g0 g1 sta sa => ⟨_, _, rfl, rfl, _, _, rfl, ?_⟩⟩
      refine ⟨fun σ' H2 => ∃ a : Option Int, σ' = [some (.ref p), some (.int n), some (.int sp), some (.int ag), some (.int (0 + (i : Int))), some (.ref ln), some (.ref f), some (.int (1 + g)), some (K26F.oV a)] ∧ StA H2 p ∧ SameB p Hi H2 ∧ ∀ x, a = some x → 0 ≤ x ∧ x < ag, ?_, ?_⟩
      · refine ⟨_, rfl, use_drawB sta (by decide) (by decide +kernel) fun v Hb v0 v1 stb sb => ⟨rfl, _, rfl, ?_⟩⟩
        by_cases c : v = 0
        · refine iteTe (decide_eq_true (by rw [c])) ⟨_, rfl, _, rfl, use_drawB stb ag0 agB fun x Hc x0 x1 stc sc => ⟨some x, rfl, stc, sa.trans (sb.trans sc), fun y e => by cases e; exact ⟨x0, x1⟩⟩⟩
        · exact iteFe (decide_eq_false fun e => c (V.int.inj e)) ⟨none, rfl, stb, sa.trans sb, fun y e => nomatch e⟩
      · rintro σ' H2 ⟨a, rfl, st2, s2, aB⟩
        have lp' := sti.neS (si _ _ el lp)
        have ew := s2 _ _ (si _ _ el lp) lp
        have ef2 := s2 _ _ efi fp
        have wi : i < ws.length := by omega
        obtain ⟨z, ez⟩ : ∃ z, ws[i]? = some z := ⟨_, List.getElem?_eq_getElem wi⟩
        have wv : (ws.map V.str)[i]? = some (.str z) := by rw [List.getElem?_map, ez]; rfl
        have wlen : (ws.map V.str).length = 5 := by rw [List.length_map, w5]
        refine ⟨_, rfl, .inl ⟨rfl, _, .inl (.inl ef2)⟩, _, rfl, _, rfl, ln, _, _, _, rfl, rfl, SqL.of ew, by rw [Int.zero_add]; exact atI_nat (j := i) wv, _, rfl, _, rfl, _, rfl, by show 1 ≤ sizeLine; decide, fun a1 n1 => ?_⟩
        have g1' := same_new (o := .lst [.non]) n1
        refine ⟨_, rfl, _, rfl, (i : Int), by rw [Int.zero_add], ln, _, rfl, SqL.of (g1' _ _ ew), fun a2 n2 => ?_⟩
        rw [K26C.cut_low i (by omega)]
        have g2 := same_new (o := .lst ((ws.map V.str).take i)) n2
        have e1' : upd (upd H2 a1 (.lst [.non])) a2 (.lst ((ws.map V.str).take i)) a1 = some (.lst [.non]) := g2 _ _ upd_same
        refine ⟨a1, a2, _, _, rfl, rfl, e1', upd_same, by rw [List.length_take, wlen, sizeLine_eq]; show 1 + min i 5 ≤ _; omega, fun a3 n3 => ?_⟩
        have g3 := same_new (o := .lst ([.non] ++ (ws.map V.str).take i)) n3
        have g13 := (g1'.trans g2).trans g3
        have st3 := st2.keep g13
        have a3p : a3 ≠ p := (st2.keep (g1'.trans g2)).ne n3
        have e3 : upd (upd (upd H2 a1 (.lst [.non])) a2 (.lst ((ws.map V.str).take i))) a3 (.lst ([.non] ++ (ws.map V.str).take i)) a3 = some (.lst ([.non] ++ (ws.map V.str).take i)) := upd_same
        generalize upd (upd (upd H2 a1 (.lst [.non])) a2 (.lst ((ws.map V.str).take i))) a3 (.lst ([.non] ++ (ws.map V.str).take i)) = H3 at *
        refine use_choose st3 (SqL.of e3) a3p (by rw [List.length_append]; show 0 < 1 + _; omega) (by rw [List.length_append, List.length_take, wlen]; show 1 + min i 5 < 1000; omega) fun x4 H4 hx4 st4 s4 => ?_
        obtain ⟨sr, esr, hsr⟩ : ∃ sr : Option Str, x4 = K26F.sV sr ∧ ∀ y, sr = some y → y ∈ ws.take i := by
          rcases List.mem_cons.mp hx4 with rfl | h
          · exact ⟨none, rfl, fun y e => nomatch e⟩
          · rw [← List.map_take] at h
            obtain ⟨y, hy, rfl⟩ := List.mem_map.mp h
            exact ⟨some y, rfl, fun y2 e => by cases e; exact hy⟩
        subst esr
        refine ⟨by show 4 ≤ sizeLine; decide, fun t nt => ?_⟩
        have g5 := same_new (o := .tup [.str z, .int (1 + g), K26F.oV a, K26F.sV sr]) nt
        have ef4 := s4 _ _ (g13 _ _ ef2) fp
        have s24 : SameB p Hi H4 := s2.trans ((SameB.of g13).trans s4)
        have tf : t ≠ f := fun q => by rw [q, ef4] at nt; cases nt
        refine ⟨f, _, _, rfl, rfl, g5 _ _ ef4, by rw [List.length_map, il, sizeLine_eq]; omega, ?_⟩
        have tk : ws.take (i + 1) = ws.take i ++ [z] := by rw [List.take_succ, ez]; rfl
        refine ⟨_, _, _, kr ++ [⟨t, z, ⟨1 + g, a, sr⟩⟩], rfl, ?_, fun q o e nn => ?_, by rw [upd_same, List.map_append]; rfl, by rw [List.length_append, il]; rfl, by rw [List.map_append, kz, tk]; rfl, ko.more ?_ (wd z (List.mem_of_getElem? ez)) ⟨by show (1 : Int) ≤ 1 + g; omega, by show 1 + g ≤ 10 ^ 30; omega⟩ (fun x e => by have := aB x e; omega) (fun y e => by rw [kz]; exact hsr y e), fun q hq => ?_⟩
        · obtain ⟨a', b', e, h⟩ := st4.keep g5
          exact ⟨a', b', by rw [upd_ne fp.symm]; exact e, h⟩
        · have nff : q ≠ f := fun z9 => by rw [z9, nf] at e; cases e
          rw [upd_ne nff]
          exact g5 _ _ (s24 _ _ (si _ _ e nn) nn)
        · rw [kz]
          show z ∉ ws.take i
          intro m
          have nd2 := wn.sublist (List.take_sublist (i + 1) ws)
          rw [tk] at nd2
          exact (List.nodup_append.mp nd2).2.2 z m z (List.mem_singleton.mpr rfl) rfl
        · rcases List.mem_append.mp hq with hq | hq
          · exact ((ka q hq).keep sti s24).mut ef4 g5
          · rw [List.mem_singleton.mp hq]
            show upd _ f _ t = _
            rw [upd_ne tf]
            exact upd_same
    · rintro sg Hi ⟨v4, v7, v8, kr, rfl, sti, si, efi, il, kz, ko, ka⟩
      exact ⟨_, rfl, k f kr Hi nfH fp il ko efi ka sti (s1.trans si)⟩
theorem sc_law_calls : FnScope ["stream", "count", "parts", "kinds", "keeps", "found", "turn", "one", "other"] ["stream", "count", "parts", "kinds", "keeps"] (defScope s_law_calls) := ⟨rfl, rfl, rfl, by decide +kernel, rfl, by decide +kernel, by decide +kernel⟩
theorem ok_calls (D : DefK K mg "_law_calls" s_law_calls) (T : TxP K mg) (G_law_draw : Cal P w K mg base CX0 1 "_law_draw" spDr) (G_law_choose : Cal P w K mg base CX0 2 "_law_choose" (spCh K)) : Cal P w K mg base CX0 3 "_law_calls" (spCallsD K) := by
  refine D.cal sc_law_calls (fun _ _ _ _ _ _ us hl => match us, hl with | [_, _, _, _, _], _ => rfl) (fun vs H Q E h => ?_) fun f cdv A outer s H vs Q E hr h => ?_
  · unfold spCallsD at h; obtain ⟨p, n, l1, l2, parts, kr, kp, rfl, _⟩ := h; rfl
  · unfold spCallsD at h; obtain ⟨p, n, l1, l2, parts, kr, kp, rfl, sA, n6, e1, pa0, pa1, e2, krA, kr0, kr1, kp0, kp1, k⟩ := h
    refine ⟨_, (pss_cons (ps_set (i := 5) sc_law_calls.nd rfl (Or.inl rfl) (pe_lst pa_nil))
      (pss_cons (ps_for PassesOwn.never rfl (pi_range1 (by rfl) T.b_range (pa_cons (pv 1) pa_nil)) (pg_name (i := 6) sc_law_calls.nd rfl (Or.inl rfl)) (pss_cons (ps_par (i := 7) (j := 8) (by rfl) sc_law_calls.nd rfl rfl (by decide) rfl rfl (pa_cons (pe_ix (r := rIxT K) ix_tup (pe_c G_law_choose hr (by decide) rfl (pa_cons (pv 0) (pa_cons (pv 3) pa_nil))) pe_int (fun _ _ => rfl)) (pa_cons (pe_ix (r := rIxT K) ix_tup (pe_c G_law_choose hr (by decide) rfl (pa_cons (pv 0) (pa_cons (pv 3) pa_nil))) pe_int (fun _ _ => rfl)) pa_nil)) (by rfl))
      (pss_one (ps_expr (pe_bm F.plainAttrs_list F.slot_list_append F.type_list_append mt_append (pv 5) (pa_cons (pe_tup (pa_cons (pe_c G_law_choose hr (by decide) rfl (pa_cons (pv 0) (pa_cons (pv 2) pa_nil))) (pa_cons (pv 7) (pa_cons (pv 8) (pa_cons (pe_c G_law_draw hr (by decide) rfl (pa_cons (pv 0) (pa_cons (pv 4) pa_nil))) pa_nil))))) pa_nil))))))
      (pss_one (ps_ret (pv 5))))), ?_⟩
    have l2p := sA.no e2 frefs_no
    have l1p := sA.neS e1
    have kpB : kp.natAbs < 2 ^ 300 := s0_big kp0 (Int.le_trans kp1 (by decide +kernel))
    refine ⟨by show 0 ≤ sizeLine; decide, fun f nf => ?_⟩
    have fp : f ≠ p := sA.ne nf
    refine ⟨_, rfl, n, rfl, by omega, by omega, ?_⟩
    rw [Int.toNat_natCast]
    refine for_range (lo := 0) (fun i sg Hi => ∃ (v6 v7 v8 : Option V) (cl : List Cl), sg = [some (.ref p), some (.int n), some (.ref l1), some (.ref l2), some (.int kp), some (.ref f), v6, v7, v8] ∧ StA Hi p ∧ SameB p H Hi ∧ Hi f = some (.lst (cl.map fun q => V.ref q.t)) ∧ cl.length = i ∧ ClOk parts (kr.map (·.z)) cl ∧ ∀ q ∈ cl, ClAt Hi q)
      ⟨_, _, _, [], rfl, sA.keep (same_new nf), SameB.of (same_new nf), upd_same, rfl, ⟨(fun _ h => nomatch h), (fun _ h => nomatch h), fun _ h => nomatch h⟩, fun _ h => nomatch h⟩ ?_ ?_
    · rintro i sg Hi hi ⟨v6, v7, v8, cl, rfl, sti, si, efi, il, co, ca⟩
      refine ⟨_, rfl, _, rfl, use_choose sti (SqL.of (si _ _ e2 l2p)) l2p (by rw [List.length_map]; exact kr0) (by rw [List.length_map]; omega) fun x1 Ha hx1 sta sa => ?_⟩
      obtain ⟨k1, hk1, rfl⟩ := List.mem_map.mp hx1
      have a1 := (((krA k1 hk1).keep sA si).keep sti sa)
      refine ⟨k1.t, _, _, _, rfl, rfl, SqT.of a1, atI_nat (j := 0) rfl, ?_⟩
      have sia := si.trans sa
      refine ⟨_, rfl, _, rfl, use_choose sta (SqL.of (sia _ _ e2 l2p)) l2p (by rw [List.length_map]; exact kr0) (by rw [List.length_map]; omega) fun x2 Hb hx2 stb sb => ?_⟩
      obtain ⟨k2, hk2, rfl⟩ := List.mem_map.mp hx2
      have sib := sia.trans sb
      have a2 := (krA k2 hk2).keep sA sib
      refine ⟨k2.t, _, _, _, rfl, rfl, SqT.of a2, atI_nat (j := 0) rfl, _, _, rfl, ?_⟩
      have efb := sb _ _ (sa _ _ efi fp) fp
      refine ⟨_, rfl, .inl ⟨rfl, _, .inl (.inl efb)⟩, _, rfl, _, rfl, use_choose stb (SqL.of (sib _ _ e1 l1p)) l1p (by rw [List.length_map]; exact pa0) (by rw [List.length_map]; omega) fun x3 Hc hx3 stc sc => ?_⟩
      obtain ⟨z3, hz3, rfl⟩ := List.mem_map.mp hx3
      refine ⟨_, rfl, _, rfl, _, rfl, _, rfl, use_drawB stc kp0 kpB fun i4 Hd i0 i1 std sd => ⟨by show 4 ≤ sizeLine; decide, fun t nt => ?_⟩⟩
      have s4 := (sa.trans sb).trans (sc.trans sd)
      have efd := s4 _ _ efi fp
      have g1 := same_new (o := .tup [.str z3, .str k1.z, .str k2.z, .int i4]) nt
      refine ⟨f, _, _, rfl, rfl, g1 _ _ efd, by rw [List.length_map, il, sizeLine_eq]; omega, ?_⟩
      have tf : t ≠ f := fun z => by rw [z, efd] at nt; cases nt
      refine ⟨_, _, _, cl ++ [⟨t, z3, k1.z, k2.z, i4⟩], rfl, ?_, fun q o e nn => ?_, by rw [upd_same, List.map_append]; rfl, by rw [List.length_append, il]; rfl, ⟨fun q hq => ?_, fun q hq => ?_, fun q hq => ?_⟩, fun q hq => ?_⟩
      · obtain ⟨a, b, e, h⟩ := std.keep g1
        exact ⟨a, b, by rw [upd_ne fp.symm]; exact e, h⟩
      · rw [upd_ne (ne_of_none e nf)]
        exact g1 _ _ (s4 _ _ (si _ _ e nn) nn)
      · rcases List.mem_append.mp hq with hq | hq
        · exact co.z q hq
        · rw [List.mem_singleton.mp hq]; exact hz3
      · rcases List.mem_append.mp hq with hq | hq
        · exact co.ab q hq
        · rw [List.mem_singleton.mp hq]; exact ⟨List.mem_map_of_mem hk1, List.mem_map_of_mem hk2⟩
      · rcases List.mem_append.mp hq with hq | hq
        · exact co.i q hq
        · rw [List.mem_singleton.mp hq]; exact ⟨i0, Int.lt_of_lt_of_le i1 kp1⟩
      · rcases List.mem_append.mp hq with hq | hq
        · exact ((ca q hq).keep sti s4).mut efd g1
        · rw [List.mem_singleton.mp hq]
          show upd _ f _ t = _
          rw [upd_ne tf]
          exact upd_same
    · rintro sg Hi ⟨v6, v7, v8, cl, rfl, sti, si, efi, il, co, ca⟩
      exact ⟨_, rfl, k f cl Hi nf fp il co efi ca sti si⟩
end
end K26
namespace K26
open PySem PySem.Spec PyProof.Rows L2 Jg
local macro_rules | `(tactic| walk_at "rd1") => `(tactic| (first
  | refine ⟨_, rfl, ?_⟩
  | refine ⟨_, _, rfl, rfl, ?_⟩
  | refine ⟨_, _, rfl, ?_⟩
  | refine ⟨rfl, ?_⟩
  | (refine ⟨show (0 : Int) < _ by omega, ?_⟩)
  | (refine ⟨Or.inl ⟨by omega, by omega⟩, ?_⟩)
  | (refine ⟨Or.inr ⟨by omega, by omega⟩, ?_⟩)
  | (refine ⟨(⟨by decide, by decide, by decide⟩ : CPow _ _), ?_⟩)
  | refine Or.inl ⟨_, rfl, ?_⟩
  | refine Or.inr ⟨_, rfl, ?_⟩
  | fail "rd"))
local macro_rules | `(tactic| walk_at "rd") => `(tactic| repeat' walk_at "rd1")
theorem mk_same {C : Addr} {H : Hp} {x dx : Addr} (nx : H x = none) (ndx : H dx = none) (nex : dx ≠ x) : Same H (upd (upd H dx (.own x)) x (.ins C dx [])) := same_new' (same_new ndx) (by rw [upd_ne (Ne.symm nex)]; exact nx)
open K26C (Td TdAt TdsAt TdR Ww CtIs CAt CtOk Ct UAt hid hid_in hid_get hid_same hid_mut)
theorem cat_hide {S : Addr → Prop} {C D x : Addr} {H : Hp} {c : Ct} (h : CAt S C H x c) (n : ∀ q, S q → q ≠ D) : CAt (fun _ => True) C (hid [D] H) x c := by
  have m : ∀ {q : Addr}, S q → q ∉ [D] := fun sq z => n _ sq (List.mem_singleton.mp z)
  obtain ⟨⟨dx, d, v, s, e1, e2, e3, e4, s1, s2, s3, s4⟩, us⟩ := h
  exact ⟨⟨dx, d, v, s, hid_in e1 (m s1), hid_in e2 (m s2), hid_in e3 (m s3), hid_in e4 (m s4), trivial, trivial, trivial, trivial⟩, fun r hr => ⟨hid_in (us r hr).tp (m (us r hr).st), hid_in (us r hr).ls (m (us r hr).sa), trivial, trivial⟩⟩
theorem hid_mono {M : List Addr} {H H' : Hp} (s : Same H H') : Same (hid M H) (hid M H') := fun q o e => hid_in (s _ _ (hid_get e).1) (hid_get e).2
@[irreducible] def spLPlan (PC C : Addr) : Sp := fun vs H Q _ => ∃ (lm lt : Addr) (ms : List Int) (qs : List Addr) (ds : List Td) (parts keys hands : List Str), vs = [.ref lm, .ref lt] ∧ H lm = some (.lst (ms.map V.int)) ∧ H lt = some (.lst (qs.map V.ref)) ∧ MsOk ms ∧ TdsAt parts keys hands H qs ds ∧ Ww parts keys hands ∧ qs.length = ms.length ∧ 1 ≤ ms.length ∧ ms.length ≤ 7 ∧
  ∀ (p : Addr) (es : List Ed) (H' : Hp), H p = none → Same H H' → PlAt PC C H' p es → mos es = ms → (∀ (i : Nat) (e : Ed), es[i]? = some e → ∃ d, ds[i]? = some d ∧ CtIs d e.c) → Q (.ref p) H'
section
variable {P : Program} {w : World} {K : PySem.W.Frag} {mg : Str → Option Value} {base : Heap} {C PC : Addr}
theorem sc_law_plan : FnScope ["moments", "tolds", "moment", "told"] ["moments", "tolds"] (defScope s_law_plan) := ⟨rfl, rfl, rfl, by decide +kernel, rfl, by decide +kernel, by decide +kernel⟩
theorem ok_lplan (D : DefK K mg "_law_plan" s_law_plan) (T : TxP K mg) (M_Plan : Mak P w K mg base CX0 6 "Plan" PC (spPInit PC C)) (G_law_contents : Cal P w K mg base CX0 9 "_law_contents" (K26C.spCon C)) : Cal P w K mg base CX0 10 "_law_plan" (spLPlan PC C) := by
  refine D.cal sc_law_plan (fun _ _ _ _ _ _ us hl => match us, hl with | [_, _], _ => rfl) (fun vs H Q E h => ?_) fun f cdv A outer s H vs Q E hr h => ?_
  · unfold spLPlan at h; obtain ⟨lm, lt, ms, qs, ds, parts, keys, hands, rfl, _⟩ := h; rfl
  · unfold spLPlan at h; obtain ⟨lm, lt, ms, qs, ds, parts, keys, hands, rfl, em, et, mok, tds, ww, ql, n1, n7, k⟩ := h
    refine ⟨_, (pss_one (ps_ret (pe_mk M_Plan hr (by decide) rfl (pa_cons (pe_lc (own := [("moment", 2), ("told", 3)]) (g := gTup K 2 (gCons (gName 2) (gCons (gName 3) gNil))) (by rfl) sc_law_plan.nd (RZ.pi_zipA (by rfl) T.b_zip (pa_cons (pv 0) (pa_cons (pv 1) pa_nil))) (blkOk_by (own := [("moment", 2), ("told", 3)]) (N := ["moments", "tolds", "moment", "told"]) (sc := defScope s_law_plan) (by decide +kernel)) (fun _ _ _ _ _ => pg_tup rfl (pgs_cons (pg_name (i := 2) sc_law_plan.nd rfl (Or.inl rfl)) (pgs_cons (pg_name (i := 3) sc_law_plan.nd rfl (Or.inl rfl)) pgs_nil))) (fun _ _ _ _ _ => pts_nil) (fun _ _ _ _ _ => (pe_tup (pa_cons (pv 2) (pa_cons (pe_c G_law_contents hr (by decide) rfl (pa_cons (pv 3) pa_nil)) pa_nil))))) pa_nil)))), ?_⟩
    refine ⟨_, rfl, _, rfl, lm, lt, ms.map V.int, qs.map V.ref, rfl, .inl ⟨SqL.of em, SqL.of et, fun D nD => ?_⟩⟩
    have nm : ms.length = min (ms.map V.int).length (qs.map V.ref).length := by rw [List.length_map, List.length_map]; omega
    refine lc_it (walk_zip nm) (fun i H' => ∃ es : List Ed, H' D = some (.lst (es.map Ed.v)) ∧ mos es = ms.take i ∧ (∀ (j : Nat) (e : Ed), es[j]? = some e → ∃ d, ds[j]? = some d ∧ CtIs d e.c) ∧ (∀ e ∈ es, EdAt C (hid [D] H') e) ∧ Same H H')
      ⟨[], upd_same, rfl, (fun _ _ h => by simp at h), (fun _ h => nomatch h), same_new nD⟩ (fun i H' _ ⟨_, _, _, _, _, s⟩ => ⟨SqL.of (s _ _ em), SqL.of (s _ _ et)⟩) ?_ ?_
    · rintro i x H' H2 hi ⟨es, eD, eM, cI, eA, s'⟩ ⟨T0, x1, x2, rfl, nT, rfl, ex1, ex2⟩
      have ex1 : (ms.map V.int)[i]? = some x1 := ex1
      have ex2 : (qs.map V.ref)[i]? = some x2 := ex2
      rw [List.getElem?_map] at ex1 ex2
      obtain ⟨m, hm, rfl⟩ : ∃ m, ms[i]? = some m ∧ x1 = .int m := by
        cases c : ms[i]? with
        | none => rw [c] at ex1; cases ex1
        | some m => rw [c] at ex1; exact ⟨m, rfl, (Option.some.inj ex1).symm⟩
      obtain ⟨q, hq, rfl⟩ : ∃ q, qs[i]? = some q ∧ x2 = .ref q := by
        cases c : qs[i]? with
        | none => rw [c] at ex2; cases ex2
        | some q => rw [c] at ex2; exact ⟨q, rfl, (Option.some.inj ex2).symm⟩
      obtain ⟨d, hd, td, tg⟩ := tds.at_ hq
      have gT := same_new (o := .tup [.int m, .ref q]) nT
      refine ⟨T0, _, rfl, SqT.of upd_same, rfl, _, _, rfl, _, _, rfl, rfl, rfl, K26C.yes_if ?_⟩
      have eD2 := gT _ _ eD
      have sT := s'.trans gT
      generalize upd H' T0 (.tup [.int m, .ref q]) = H3 at *
      refine ⟨_, rfl, _, rfl, q, d, rfl, td.same sT, tg.r ww, fun z c H5 ca cok cis s5 => ⟨by show 2 ≤ sizeLine; decide, fun t nt => ?_⟩⟩
      have g6 := same_new (o := .tup [.int m, .ref z]) nt
      have sall := (gT.trans s5).trans g6
      have eD6 := g6 _ _ (s5 _ _ eD2)
      have tD : t ≠ D := fun z9 => by rw [z9, s5 _ _ eD2] at nt; cases nt
      have el : es.length = i := by
        have z1 := congrArg List.length eM
        unfold mos at z1
        rw [List.length_map, List.length_take] at z1
        omega
      refine ⟨_, eD6, by rw [List.length_map, el, sizeLine_eq]; omega, es ++ [⟨m, t, z, c⟩], by rw [upd_same, List.map_append]; rfl, ?_, fun j e he => ?_, fun e he => ?_, same_mut (s'.trans sall) nD⟩
      · unfold mos at eM ⊢
        rw [List.map_append, eM, List.take_succ, hm]; rfl
      · by_cases cj : j < es.length
        · rw [List.getElem?_append_left cj] at he; exact cI j e he
        · have l2 := (List.getElem?_eq_some_iff.mp he).1
          rw [List.length_append] at l2
          have ej : j = es.length := by have : j < es.length + 1 := l2; omega
          subst ej
          rw [List.getElem?_append_right (Nat.le_refl _), Nat.sub_self] at he
          cases Option.some.inj he
          exact ⟨d, by rw [el]; exact hd, cis⟩
      · rw [hid_mut]
        rcases List.mem_append.mp he with he | he
        · exact (eA e he).same (hid_mono sall)
        · obtain rfl := List.mem_singleton.mp he
          refine ⟨hid_in upd_same fun z9 => tD (List.mem_singleton.mp z9), (cat_hide ca fun q9 nq z9 => ?_).same (hid_mono g6), cok⟩
          rw [z9, eD2] at nq; cases nq
    · rintro H3 ⟨es, eD, eM, cI, eA, s3⟩
      rw [List.take_length] at eM
      have el : es.length = ms.length := by rw [← eM]; unfold mos; rw [List.length_map]
      have eA' : ∀ e ∈ es, EdAt C H3 e := fun e he => (eA e he).same hid_same
      have at_m : ∀ {i : Nat} {e : Ed}, es[i]? = some e → ms[i]? = some e.m := fun {i e} he => by rw [← eM]; unfold mos; rw [List.getElem?_map, he]; rfl
      have LMb : (10 ^ 32 : Int) ≤ LM := by decide +kernel
      have roles : ∀ e ∈ es, e.c.us.map (·.z) = srtW parts := fun e he => by
        obtain ⟨i, he'⟩ := List.getElem?_of_mem he
        obtain ⟨d, hd, cis⟩ := cI i e he'
        have lq : i < qs.length := by rw [ql, ← el]; exact (List.getElem?_eq_some_iff.mp he').1
        obtain ⟨d', hd', _, tg⟩ := tds.at_ (List.getElem?_eq_getElem lq)
        rw [hd] at hd'
        cases hd'
        rw [cis.zs, tg.zs]
      have ok : EdsOk es := ⟨by omega, by omega, fun e he => by
          obtain ⟨i, he'⟩ := List.getElem?_of_mem he
          have := mok.lo _ (List.mem_of_getElem? (at_m he'))
          exact ⟨this.1, by omega⟩, fun i a b ha hb => mok.inc i _ _ (at_m ha) (at_m hb), fun a ha b hb => by rw [roles a ha, roles b hb]⟩
      intro x dx nx ndx nex
      refine ⟨x, dx, D, es, H3, rfl, upd_same, mk_same nx ndx nex, nx, eD, eA', ok, fun H' es' pl ek sH => ⟨rfl, ?_⟩⟩
      refine k x es' H' (s3.free nx) (s3.trans sH) pl ?_ ?_
      · rw [← eM]
        unfold mos
        have z := congrArg (List.map (·.1)) ek
        rw [List.map_map, List.map_map] at z
        exact z
      · intro i e he
        have z : (es'.map Ed.k)[i]? = some (Ed.k e) := by rw [List.getElem?_map, he]; rfl
        rw [ek, List.getElem?_map] at z
        cases c : es[i]? with
        | none => rw [c] at z; cases z
        | some q =>
          rw [c] at z
          obtain ⟨d, hd, cis⟩ := cI i q c
          have e3 : q.c = e.c := congrArg (·.2.2) (Option.some.inj z)
          exact ⟨d, hd, e3 ▸ cis⟩
end
end K26
namespace K26
open PySem PySem.Spec PyProof.Rows L2 Jg
local macro_rules | `(tactic| walk_at "rd1") => `(tactic| (first
  | refine ⟨_, rfl, ?_⟩
  | refine ⟨_, _, rfl, rfl, ?_⟩
  | refine ⟨_, _, rfl, ?_⟩
  | refine ⟨rfl, ?_⟩
  | (refine ⟨show (0 : Int) < _ by omega, ?_⟩)
  | (refine ⟨Or.inl ⟨by omega, by omega⟩, ?_⟩)
  | (refine ⟨Or.inr ⟨by omega, by omega⟩, ?_⟩)
  | (refine ⟨(⟨by decide, by decide, by decide⟩ : CPow _ _), ?_⟩)
  | refine Or.inl ⟨_, rfl, ?_⟩
  | refine Or.inr ⟨_, rfl, ?_⟩
  | fail "rd"))
local macro_rules | `(tactic| walk_at "rd") => `(tactic| repeat' walk_at "rd1")
theorem pe_mk0 {X : Cx} {k j : Nat} {C : Addr} {x : Str} {sp : Sp} {p pos : Pos} (c : Mak X.prog X.w X.K X.mg X.base CX0 k x C sp) (hr : Room j X.A) (hk : k + 1 ≤ j) (hg : Gl X x) (hdb : (x == ("__debug__" : Str)) = false := by decide) :
    PE X (.Call (.Name x p) [] [] pos) (tMake C sp [] E0 tNil) := by
  obtain ⟨f, fd, ps, F, a, i, kp, b⟩ := c.init.ex
  exact pe_make0 ⟨c.mks, a, i, c.kp⟩ F (hr.mono hk) hg c.mg_ b .nil pass0 hdb
theorem src_at {ks : K26F.Ks} {i : Nat} {e : Str × K26F.Kd × Addr} (nd : (ks.map (·.1)).Nodup) (h : ks[i]? = some e) : K26F.srcOf ks e.1 = e.2.1.s := by unfold K26F.srcOf; rw [kd_at nd h]; rfl
theorem chain_le {ks : K26F.Ks} (nd : (ks.map (·.1)).Nodup) (od : KOrd ks) : ∀ (n : Nat) (acc : List Str) (j : Nat) (e : Str × K26F.Kd × Addr), ks[j]? = some e → (K26F.chainB ks n acc (some e.1)).length ≤ acc.length + j + 1
  | 0, acc, j, e, h => by show acc.length ≤ _; omega
  | n + 1, acc, j, e, h => by
    show (K26F.chainB ks n (e.1 :: acc) (K26F.srcOf ks e.1)).length ≤ _
    rw [src_at nd h]
    cases c : e.2.1.s with
    | none => rw [K26F.chainB_none]; show acc.length + 1 ≤ _; omega
    | some y =>
      obtain ⟨j', e', lt, h', q⟩ := take_at (g := fun e : Str × K26F.Kd × Addr => e.1) (od j e y h c)
      rw [← q]
      have z := chain_le nd od n (e.1 :: acc) j' e' h'
      rw [List.length_cons] at z
      omega
theorem no_long {ks : K26F.Ks} (nd : (ks.map (·.1)).Nodup) (od : KOrd ks) (l : ks.length ≤ 4) : ks.any (K26F.lg ks) = false := by
  rw [List.any_eq_false]
  intro e he q
  have q1 : (4 : Int) < ((K26F.chainF ks e.1).map V.str).length := of_decide_eq_true q
  rw [List.length_map] at q1
  obtain ⟨j, hj⟩ := List.getElem?_of_mem he
  have jl := (List.getElem?_eq_some_iff.mp hj).1
  unfold K26F.chainF at q1
  rw [src_at nd hj] at q1
  cases c : e.2.1.s with
  | none => rw [c, K26F.chainB_none] at q1; exact absurd q1 (by show ¬ ((4 : Int) < ((1 : Nat) : Int)); decide)
  | some y =>
    rw [c] at q1
    obtain ⟨j', e', lt, h', q2⟩ := take_at (g := fun e : Str × K26F.Kd × Addr => e.1) (od j e y hj c)
    rw [← q2] at q1
    have z := chain_le nd od 4 [e.1] j' e' h'
    have z1 : ([e.1] : List Str).length = 1 := rfl
    omega
theorem kmk3 {K : PySem.W.Frag} {C CI : Addr} {H : Hp} {r : K26F.Kd} {F : VK} {E : XK} {x dx : Addr} (nx : H x = none) (ndx : H dx = none) (nex : dx ≠ x) (ok : K26F.KOk r) (q : ∀ H', Same H H' → K26F.KAt C H' x r → F .non H') :
    K26F.spKInit K C CI [.ref x, .int r.g, K26F.oV r.a, K26F.sV r.s] (upd (upd H dx (.own x)) x (.ins C dx [])) F E :=
  ⟨x, dx, _, _, _, H, rfl, upd_same, mk_same (C := C) nx ndx nex, nx, .inl ⟨r, rfl, rfl, rfl, ok, fun H1 ka kp => q H1 (Same.made nx ndx kp) ka⟩⟩
theorem fa_off {F C : Addr} {H H' : Hp} {f d c : Addr} {ks : K26F.Ks} {cs cs' : List V} (h : K26F.FltAt F C H f d c ks cs) (s : ∀ q o, H q = some o → q ≠ c → H' q = some o) (e : H' c = some (.lst cs')) : K26F.FltAt F C H' f d c ks cs' := by
  obtain ⟨⟨dx, ef⟩, ed, kd, ec⟩ := h
  have n1 : f ≠ c := fun z => by rw [z, ec] at ef; cases ef
  have n2 : d ≠ c := fun z => by rw [z, ec] at ed; cases ed
  refine ⟨⟨dx, s _ _ ef n1⟩, s _ _ ed n2, ⟨.inl (s _ _ ed n2), fun e he => ?_⟩, e⟩
  obtain ⟨⟨dx2, e2⟩, ok⟩ := kd.2 e he
  have n3 : e.2.2 ≠ c := fun z => by rw [z, ec] at e2; cases e2
  exact ⟨⟨dx2, s _ _ e2 n3⟩, ok⟩
@[irreducible] def spLFleet (FC KC : Addr) : Sp := fun vs H Q _ => ∃ (lk lc : Addr) (kr : List KRow) (cl : List Cl) (parts : List Str), vs = [.ref lk, .ref lc] ∧ H lk = some (.lst (kr.map fun k => V.ref k.t)) ∧ (∀ k ∈ kr, KrAt H k) ∧ KrOk kr ∧ kr.length ≤ 4 ∧
  H lc = some (.lst (cl.map fun q => V.ref q.t)) ∧ (∀ q ∈ cl, ClAt H q) ∧ ClOk parts (kr.map (·.z)) cl ∧ cl.length ≤ 5 ∧ (∀ z ∈ parts, K26C.Wd z) ∧
  ∀ (f d c : Addr) (ks : K26F.Ks) (cl' : List Cl) (H' : Hp), H f = none → H d = none → H c = none → Same H H' → K26F.FltAt FC KC H' f d c ks (cl'.map fun q => V.ref q.t) → (∀ q ∈ cl', ClAt H' q) → ks.map (fun e => (e.1, e.2.1)) = kr.map (fun k => (k.z, k.r)) → cl'.map Cl.w = cl.map Cl.w → Q (.ref f) H'
def gA4 : List V → List V → List V := fun vs zs => vs ++ zs
theorem kr_kok {kr : List KRow} (ko : KrOk kr) {i : Nat} {k : KRow} (h : kr[i]? = some k) : K26F.KOk k.r := by
  have m := List.mem_of_getElem? h
  refine ⟨ko.g k m, fun a e => ?_, fun z e => ?_⟩
  · have := ko.a k m a e
    exact this
  · obtain ⟨j, k', _, h', q⟩ := take_at (g := KRow.z) (ko.s i k z h e)
    have w := ko.wd k' (List.mem_of_getElem? h')
    rw [q] at w
    exact ⟨w.ok.1, w.ok.2⟩
theorem kr_at {kr : List KRow} {i : Nat} {x : V} (h : (kr.map fun k => V.ref k.t)[i]? = some x) : ∃ k, kr[i]? = some k ∧ x = .ref k.t := by
  rw [List.getElem?_map] at h
  cases c : kr[i]? with
  | none => rw [c] at h; cases h
  | some k => rw [c] at h; exact ⟨k, rfl, (Option.some.inj h).symm⟩
theorem cl_at {cl : List Cl} {i : Nat} {x : V} (h : (cl.map fun k => V.ref k.t)[i]? = some x) : ∃ k, cl[i]? = some k ∧ x = .ref k.t := by
  rw [List.getElem?_map] at h
  cases c : cl[i]? with
  | none => rw [c] at h; cases h
  | some k => rw [c] at h; exact ⟨k, rfl, (Option.some.inj h).symm⟩
section
variable {P : Program} {w : World} {K : PySem.W.Frag} {mg : Str → Option Value} {base : Heap} {FC KC CI CU CA CM CO : Addr}
theorem sc_law_fleet : FnScope ["kinds", "calls", "fleet", "name", "span_v", "aged", "feeder", "part", "one", "other", "keep"] ["kinds", "calls"] (defScope s_law_fleet) := ⟨rfl, rfl, rfl, by decide +kernel, rfl, by decide +kernel, by decide +kernel⟩
theorem ok_lfleet (D : DefK K mg "_law_fleet" s_law_fleet) (TF : K26F.FTx K mg FC) (M_Fleet : Mak P w K mg base CX0 1 "Fleet" FC (K26F.spFInit FC KC)) (M_Kind : MakW P w K mg base (L2.CX P w) 5 "Kind" KC ["gap", "age", "source"] K26F.g3 (K26F.spKInit K KC CI)) (M_set : Met P w K mg base (L2.CX P w) 8 FC "__setitem__" (K26F.spSet K FC KC CI CU CO))
    (M_add : MetW P w K mg base (L2.CX P w) 5 FC "add_call" 4 ["life"] gA4 (K26F.spAdd K FC KC CA CU CM CO)) : Cal P w K mg base CX0 9 "_law_fleet" (spLFleet FC KC) := by
  refine D.cal sc_law_fleet (fun _ _ _ _ _ _ us hl => match us, hl with | [_, _], _ => rfl) (fun vs H Q E h => ?_) fun f0 cdv A outer s H vs Q E hr h => ?_
  · unfold spLFleet at h; obtain ⟨lk, lc, kr, cl, parts, rfl, _⟩ := h; rfl
  · unfold spLFleet at h; obtain ⟨lk, lc, kr, cl, parts, rfl, ek, krA, ko, k4, ec, clA, co, c5, pw, k⟩ := h
    refine ⟨_, (pss_cons (ps_set (i := 2) sc_law_fleet.nd rfl (Or.inl rfl) (pe_mk0 M_Fleet hr (by decide) rfl))
      (pss_cons (ps_for PassesOwn.never rfl (pi_list (pv 0)) (pg_tup rfl (pgs_cons (pg_name (i := 3) sc_law_fleet.nd rfl (Or.inl rfl)) (pgs_cons (pg_name (i := 4) sc_law_fleet.nd rfl (Or.inl rfl)) (pgs_cons (pg_name (i := 5) sc_law_fleet.nd rfl (Or.inl rfl)) (pgs_cons (pg_name (i := 6) sc_law_fleet.nd rfl (Or.inl rfl)) pgs_nil))))) (pss_one (ps_asg (pe_mkKS M_Kind takes0 hr (by decide) rfl (pk_cons (pv 4) (pk_cons (pv 5) (pk_cons (pv 6) pk_nil)))) (pg_subO M_set TF.ns takes0 hr (by decide) (pv 2) (pv 3)))))
      (pss_cons (ps_for PassesOwn.never rfl (pi_list (pv 1)) (pg_tup rfl (pgs_cons (pg_name (i := 7) sc_law_fleet.nd rfl (Or.inl rfl)) (pgs_cons (pg_name (i := 8) sc_law_fleet.nd rfl (Or.inl rfl)) (pgs_cons (pg_name (i := 9) sc_law_fleet.nd rfl (Or.inl rfl)) (pgs_cons (pg_name (i := 10) sc_law_fleet.nd rfl (Or.inl rfl)) pgs_nil))))) (pss_one (ps_expr (pe_mKS M_add TF.cl takes0 hr (by decide) (pv 2) (pa_cons (pv 7) (pa_cons (pv 8) (pa_cons (pv 9) pa_nil))) (pk_cons (pv 10) pk_nil)))))
      (pss_one (ps_ret (pv 2)))))), ?_⟩
    intro f dx nf ndx nef
    refine ⟨f, dx, rfl, upd_same, fun H3 d0 c nd0 nc0 fa0 keep3 => ⟨rfl, ?_⟩⟩
    have s3 : Same H H3 := fun q o e => by
      have n : q ≠ f := ne_of_none e nf
      exact keep3 q o (by rw [upd_ne n, upd_ne (ne_of_none e ndx)]; exact e) n
    have frs : ∀ {q : Addr}, upd (upd H dx (.own f)) f (.ins FC dx []) q = none → H q = none := fun {q} n => by
      cases c : H q with
      | none => rfl
      | some o =>
        have n1 : q ≠ f := ne_of_none c nf
        rw [upd_ne n1, upd_ne (ne_of_none c ndx), c] at n; cases n
    have nd' := frs nd0
    have nc' := frs nc0
    clear nd0 nc0 frs keep3
    refine ⟨_, rfl, lk, rfl, ⟨_, SqL.of (s3 _ _ ek)⟩, for_list (K := K) (a := lk) (xs := kr.map fun k => V.ref k.t) (fun i sg H' => ∃ (v3 v4 v5 v6 v7 v8 v9 v10 : Option V) (d : Addr) (ks : K26F.Ks), sg = [some (.ref lk), some (.ref lc), some (.ref f), v3, v4, v5, v6, v7, v8, v9, v10] ∧ Same H H' ∧ H d = none ∧ K26F.FltAt FC KC H' f d c ks [] ∧ ks.map (fun (e : Str × K26F.Kd × Addr) => (e.1, e.2.1)) = (kr.take i).map (fun k => (k.z, k.r)))
      ⟨_, _, _, _, _, _, _, _, d0, [], rfl, s3, nd', fa0, rfl⟩ (fun i _ H' _ ⟨_, _, _, _, _, _, _, _, _, _, _, s', _⟩ => SqL.of (s' _ _ ek)) ?_ ?_⟩
    · rintro i y σ H' hy ⟨v3, v4, v5, v6, v7, v8, v9, v10, d, ks, rfl, s2, dn, fa, ke⟩
      obtain ⟨kk, hk, rfl⟩ := kr_at hy
      have mk := List.mem_of_getElem? hk
      refine ⟨kk.t, _, rfl, SqT.of (s2 _ _ (krA kk mk)), rfl, _, _, rfl, _, _, rfl, _, _, rfl, _, _, rfl, rfl, ?_⟩
      have kok := kr_kok ko hk
      refine ⟨_, rfl, _, rfl, _, rfl, rfl, fun x dx2 nx ndx2 nex => kmk3 nx ndx2 nex kok fun H1 s1 ka => ⟨rfl, ?_⟩⟩
      have fa1 := fa.keep s1
      have sH := s2.trans s1
      obtain ⟨dxf, ef⟩ := id fa1.at_
      obtain ⟨nd1, od1, nm1⟩ := kr_ord ko ke
      have il := (List.getElem?_eq_some_iff.mp hk).1
      have kl : ks.length = i := by
        have := congrArg List.length ke
        rw [List.length_map, List.length_map, List.length_take] at this
        omega
      have zn : kk.z ∉ ks.map (·.1) := by
        rw [nm1]
        intro m
        obtain ⟨j, k', lt, h', q⟩ := take_at (g := KRow.z) m
        obtain ⟨h1, q1⟩ := List.getElem?_eq_some_iff.mp h'
        obtain ⟨h2, q2⟩ := List.getElem?_eq_some_iff.mp hk
        have k1 : (kr.map (·.z))[j]'(by rw [List.length_map]; exact h1) = kk.z := by rw [List.getElem_map, q1]; exact q
        have k2 : (kr.map (·.z))[i]'(by rw [List.length_map]; exact h2) = kk.z := by rw [List.getElem_map, q2]
        have := (List.getElem_inj ko.nd (h₀ := by rw [List.length_map]; exact h1) (h₁ := by rw [List.length_map]; exact h2)).mp (k1.trans k2.symm)
        omega
      have an : (ks.any fun o => decide (o.1 = kk.z)) = false := by
        rw [List.any_eq_false]
        intro o ho q
        exact zn (List.mem_map.mpr ⟨o, ho, of_decide_eq_true q⟩)
      have pk : ∀ x', K26F.putKs ks kk.z kk.r x' = ks ++ [(kk.z, kk.r, x')] := fun x' => by unfold K26F.putKs; rw [an]; rfl
      have ke2 : ∀ x', (ks ++ [(kk.z, kk.r, x')]).map (fun (e : Str × K26F.Kd × Addr) => (e.1, e.2.1)) = (kr.take (i + 1)).map (fun k => (k.z, k.r)) := fun x' => by rw [List.map_append, ke, List.take_succ, hk, List.map_append]; rfl
      have src : ∀ z, kk.r.s = some z → z ∈ ks.map (·.1) := fun z e => by rw [nm1]; exact ko.s i kk z hk e
      have fed : K26F.Fed ks := fun e he z ez => by
        obtain ⟨j, hj⟩ := List.getElem?_of_mem he
        exact (List.Sublist.map (fun e : Str × K26F.Kd × Addr => e.1) (List.take_sublist j ks)).subset (od1 j e z hj ez)
      have wz := (ko.wd kk mk).ok
      refine ⟨_, rfl, _, rfl, f, dxf, _, rfl, ef, f, d, c, _, _, ks, [], rfl, fa1, by omega, fed, .inr ⟨x, kk.z, kk.r, rfl, rfl, ka, kok, wz.1, wz.2, .inr ⟨src, .inr ⟨.inr (by omega), .inr ⟨fun x' => ?_, fun d' x' H2 nd2 nx2 fa2 keep2 => ?_⟩⟩⟩⟩⟩
      · rw [pk]
        obtain ⟨nd3, od3, _⟩ := kr_ord ko (ke2 x')
        exact no_long nd3 od3 (by rw [List.length_append, kl]; show i + 1 ≤ 4; omega)
      · rw [pk] at fa2
        exact ⟨rfl, _, _, _, _, _, _, _, _, d', _, rfl, fun q o e => keep2 _ _ (sH _ _ e) (ne_of_none e nf), sH.free nd2, fa2, ke2 _⟩
    · rintro σ H4 ⟨v3, v4, v5, v6, v7, v8, v9, v10, d, ks, rfl, s4, dn, fa4, ke⟩
      rw [List.length_map, List.take_length] at ke
      obtain ⟨nd1, od1, nm1⟩ := kr_ord (i := kr.length) ko (by rw [List.take_length]; exact ke)
      rw [List.take_length] at nm1
      have wks : K26F.WdKs ks := fun e he => by
        have m : e.1 ∈ ks.map (·.1) := List.mem_map_of_mem he
        rw [nm1] at m
        obtain ⟨k', hk', q⟩ := List.mem_map.mp m
        rw [← q]; exact ⟨(ko.wd k' hk').ok.1, (ko.wd k' hk').ok.2⟩
      refine ⟨_, rfl, lc, rfl, ⟨_, SqL.of (s4 _ _ ec)⟩, for_list (K := K) (a := lc) (xs := cl.map fun k => V.ref k.t) (fun i sg H' => ∃ (v3 v4 v5 v6 v7 v8 v9 v10 : Option V) (cl' : List Cl), sg = [some (.ref lk), some (.ref lc), some (.ref f), v3, v4, v5, v6, v7, v8, v9, v10] ∧ Same H H' ∧ K26F.FltAt FC KC H' f d c ks (cl'.map fun q => V.ref q.t) ∧ (∀ q ∈ cl', ClAt H' q) ∧ cl'.map Cl.w = (cl.take i).map Cl.w)
        ⟨_, _, _, _, _, _, _, _, [], rfl, s4, fa4, (fun _ h => nomatch h), rfl⟩ (fun i _ H' _ ⟨_, _, _, _, _, _, _, _, _, _, s', _⟩ => SqL.of (s' _ _ ec)) ?_ ?_⟩
      · rintro i y σ H' hy ⟨w3, w4, w5, w6, w7, w8, w9, w10, cl', rfl, s5, fa5, ca5, ce⟩
        obtain ⟨q, hq, rfl⟩ := cl_at hy
        have mq := List.mem_of_getElem? hq
        refine ⟨q.t, _, rfl, SqT.of (s5 _ _ (clA q mq)), rfl, _, _, rfl, _, _, rfl, _, _, rfl, _, _, rfl, rfl, ?_⟩
        obtain ⟨dxf, ef⟩ := id fa5.at_
        have wz := (pw q.z (co.z q mq)).ok
        have ab := co.ab q mq
        rw [← nm1] at ab
        have iB := co.i q mq
        have cl5 : cl'.length = i := by
          have := congrArg List.length ce
          rw [List.length_map, List.length_map, List.length_take] at this
          have := (List.getElem?_eq_some_iff.mp hq).1
          omega
        have il := (List.getElem?_eq_some_iff.mp hq).1
        refine ⟨_, rfl, f, dxf, _, rfl, ef, K26F.get_fno _ _ (by decide +kernel) (by decide +kernel), _, rfl, _, rfl, _, rfl, _, rfl, rfl, rfl, ?_⟩
        refine ⟨f, d, c, _, _, _, _, ks, _, rfl, fa5, wks, .inr ⟨q.z, rfl, wz.1, wz.2, .inr ⟨q.a, rfl, ab.1, .inr ⟨q.b, rfl, ab.2, .inr ⟨q.i, rfl, iB.1, Int.le_of_lt iB.2, .inr ⟨by rw [List.length_map]; omega, fun t nt => ?_⟩⟩⟩⟩⟩⟩
        have g1 := same_new (o := .tup (K26F.callT q.z q.a q.b q.i)) nt
        have ecal := fa5.cal
        have tc : t ≠ c := fun z => by rw [z, ecal] at nt; cases nt
        refine ⟨_, _, _, _, _, _, _, _, cl' ++ [⟨t, q.z, q.a, q.b, q.i⟩], rfl, same_mut (s5.trans g1) nc', ?_, fun x hx => ?_, ?_⟩
        · rw [List.map_append]
          exact fa_off fa5 (fun b o e n => by rw [upd_ne n]; exact g1 _ _ e) upd_same
        · rcases List.mem_append.mp hx with hx | hx
          · exact (ca5 x hx).mut ecal g1
          · rw [List.mem_singleton.mp hx]
            show upd _ c _ t = _
            rw [upd_ne tc]
            exact upd_same
        · rw [List.map_append, ce, List.take_succ, hq, List.map_append]; rfl
      · rintro σ H5 ⟨w3, w4, w5, w6, w7, w8, w9, w10, cl', rfl, s5, fa5, ca5, ce⟩
        rw [List.length_map, List.take_length] at ce
        exact ⟨_, rfl, k f d c ks cl' H5 nf dn nc' s5 fa5 ca5 ke ce⟩
end
end K26
namespace K26
open PySem PySem.Spec PyProof.Rows L2 Jg
local macro_rules | `(tactic| walk_at "rd1") => `(tactic| (first
  | refine ⟨_, rfl, ?_⟩
  | refine ⟨_, _, rfl, rfl, ?_⟩
  | refine ⟨_, _, rfl, ?_⟩
  | refine ⟨rfl, ?_⟩
  | (refine ⟨show (0 : Int) < _ by omega, ?_⟩)
  | (refine ⟨Or.inl ⟨by omega, by omega⟩, ?_⟩)
  | (refine ⟨Or.inr ⟨by omega, by omega⟩, ?_⟩)
  | (refine ⟨(⟨by decide, by decide, by decide⟩ : CPow _ _), ?_⟩)
  | refine Or.inl ⟨_, rfl, ?_⟩
  | refine Or.inr ⟨_, rfl, ?_⟩
  | fail "rd"))
local macro_rules | `(tactic| walk_at "rd") => `(tactic| repeat' walk_at "rd1")
@[irreducible] def spLLate (n : Nat) : Sp := fun vs H Q _ => ∃ (lk : Addr) (kr : List KRow) (o : Option Str), vs = [.ref lk, K26F.sV o] ∧ H lk = some (.lst (kr.map fun k => V.ref k.t)) ∧ (∀ k ∈ kr, KrAt H k) ∧ KrOk kr ∧ kr.length ≤ 100 ∧ 0 < n ∧
  (∀ z, o = some z → ∃ (i : Nat) (k : KRow), kr[i]? = some k ∧ k.z = z ∧ i + 1 < n) ∧ ∀ H', Same H H' → Q (.int (lateZ kr n o)) H'
def endO (ms : List Int) (sl : Int) (n : Nat) : Option Int := if n + 1 = ms.length then none else some (ms.getD (n + 1) 0 + (sl - 2))
section
variable {P : Program} {w : World} {K : PySem.W.Frag} {mg : Str → Option Value} {base : Heap} {RC : Addr}
theorem sc_law_late : FnScope ["kinds", "name", "more", "span_v", "aged", "feeder", "one"] ["kinds", "name"] (defScope s_law_late) := ⟨rfl, rfl, rfl, by decide +kernel, rfl, by decide +kernel, by decide +kernel⟩
theorem ok_late (D : DefK K mg "_law_late" s_law_late) : ∀ n : Nat, Cal P w K mg base CX0 (n + 1) "_law_late" (spLLate n)
  | 0 => by
    refine D.cal sc_law_late (fun _ _ _ _ _ _ us hl => match us, hl with | [_, _], _ => rfl) (fun vs H Q E h => ?_) fun f cdv A outer s H vs Q E hr h => ?_
    · unfold spLLate at h; obtain ⟨lk, kr, o, rfl, _⟩ := h; rfl
    · unfold spLLate at h; obtain ⟨lk, kr, o, _, _, _, _, _, z, _⟩ := h
      exact absurd z (Nat.lt_irrefl 0)
  | n + 1 => by
    have G_law_late := ok_late D n
    refine D.cal sc_law_late (fun _ _ _ _ _ _ us hl => match us, hl with | [_, _], _ => rfl) (fun vs H Q E h => ?_) fun f cdv A outer s H vs Q E hr h => ?_
    · unfold spLLate at h; obtain ⟨lk, kr, o, rfl, _⟩ := h; rfl
    · unfold spLLate at h; obtain ⟨lk, kr, o, rfl, ek, krA, ko, kn, n0, mem, k⟩ := h
      refine ⟨_, (pss_cons (ps_if (pt_cmpR op_isN (pv 1) pe_non (nomark _)) (pss_one (ps_ret pe_int)) pss_nil)
      (pss_cons (ps_asg (pe_ix (r := rIxL K) ix_list (pe_lc (own := [("one", 6)]) (g := gName 6) (by rfl) sc_law_late.nd (pi_list (pv 0)) (blkOk_by (own := [("one", 6)]) (N := ["kinds", "name", "more", "span_v", "aged", "feeder", "one"]) (sc := defScope s_law_late) (by decide +kernel)) (fun _ _ _ _ _ => pg_name (i := 6) sc_law_late.nd rfl (Or.inl rfl)) (fun _ _ _ _ _ => (pts_one (pt_cmpR op_eq (pe_ix (r := rIxT K) ix_tup (pv 6) pe_int (fun _ _ => rfl)) (pv 1) (nomark _)))) (fun _ _ _ _ _ => (pe_slice (r := rSlT K) sl_tup (pv 6) (po_some pe_int) po_none))) pe_int (fun _ _ => rfl)) (pg_tup rfl (pgs_cons (pg_name (i := 3) sc_law_late.nd rfl (Or.inl rfl)) (pgs_cons (pg_name (i := 4) sc_law_late.nd rfl (Or.inl rfl)) (pgs_cons (pg_name (i := 5) sc_law_late.nd rfl (Or.inl rfl)) pgs_nil)))))
      (pss_cons (ps_set (i := 2) sc_law_late.nd rfl (Or.inl rfl) (pe_ifExp (pt_cmpR op_isN (pv 4) pe_non (nomark _)) (pe_op op_sub (pv 3) pe_int) (pe_op op_sub (pe_op op_add (pe_op op_mul pe_int (pv 3)) (pv 4)) pe_int)))
      (pss_one (ps_ret (pe_op op_add (pe_c G_law_late hr (Nat.le_refl _) rfl (pa_cons (pv 0) (pa_cons (pv 5) pa_nil))) (pv 2))))))), ?_⟩
      cases o with
      | none =>
        refine ⟨_, rfl, rfl, _, rfl, iteT ?_⟩
        have z := k H (.refl _)
        rw [lateZ_none] at z
        exact z
      | some z =>
        obtain ⟨i0, k0, hk0, kz, lt0⟩ := mem z rfl
        subst kz
        have eZ : lateZ kr (n + 1) (some k0.z) = lateZ kr n k0.r.s + K26F.addK k0.r := by
          show (match kr.find? (fun k => decide (k.z = k0.z)) with | none => 1 | some k => lateZ kr n k.r.s + K26F.addK k.r) = _
          rw [kr_find ko.nd hk0]
        rw [eZ] at k
        refine ⟨_, rfl, rfl, _, rfl, iteFe (decide_eq_false fun e => nomatch e) ?_⟩
        refine ⟨_, rfl, lk, rfl, ⟨_, SqL.of ek⟩, fun D nD => ?_⟩
        refine lc_list (K := K) (a := lk) (xs := kr.map fun k => V.ref k.t) (fun i H' => Same H H' ∧ ((i ≤ i0 ∧ H' D = some (.lst [])) ∨ (i0 < i ∧ ∃ T, H' D = some (.lst [.ref T]) ∧ H' T = some (.tup [.int k0.r.g, K26F.oV k0.r.a, K26F.sV k0.r.s])))) ⟨same_new nD, .inl ⟨Nat.zero_le _, upd_same⟩⟩ (fun i H' _ ⟨s', _⟩ => SqL.of (s' _ _ ek)) ?_ ?_
        · rintro i y H' hy ⟨s', iv⟩
          obtain ⟨kk, hk, rfl⟩ := kr_at hy
          have et := s' _ _ (krA kk (List.mem_of_getElem? hk))
          refine ⟨rfl, _, rfl, kk.t, _, _, _, rfl, rfl, SqT.of et, atI_nat (j := 0) rfl, _, rfl, rfl, _, rfl, ?_⟩
          by_cases c : kk.z = k0.z
          · have ii : i = i0 := by
              obtain ⟨l1, q1⟩ := List.getElem?_eq_some_iff.mp hk
              obtain ⟨l2, q2⟩ := List.getElem?_eq_some_iff.mp hk0
              have k1 : (kr.map (·.z))[i]'(by rw [List.length_map]; exact l1) = k0.z := by rw [List.getElem_map, q1]; exact c
              have k2 : (kr.map (·.z))[i0]'(by rw [List.length_map]; exact l2) = k0.z := by rw [List.getElem_map, q2]
              exact (List.getElem_inj ko.nd (h₀ := by rw [List.length_map]; exact l1) (h₁ := by rw [List.length_map]; exact l2)).mp (k1.trans k2.symm)
            subst ii
            rw [hk0] at hk
            cases Option.some.inj hk
            refine iteTe (decide_eq_true rfl) ⟨_, rfl, 1, rfl, k0.t, _, rfl, SqT.of et, fun h => absurd h.1 (show ¬ HT.sIx 4 0 (some 1) = 0 by decide +kernel), fun p np => ?_⟩
            rcases iv with ⟨_, eD⟩ | ⟨lt, _⟩
            · have g1 := same_new (o := .tup (cutV [.str k0.z, .int k0.r.g, K26F.oV k0.r.a, K26F.sV k0.r.s] (some 1) none)) np
              have pD : p ≠ D := fun q => by rw [q, eD] at np; cases np
              refine ⟨[], g1 _ _ eD, by rw [sizeLine_eq]; show 0 < _; omega, same_mut (s'.trans g1) nD, .inr ⟨Nat.lt_succ_self _, p, upd_same, ?_⟩⟩
              rw [upd_ne pD, upd_same]; rfl
            · exact absurd lt (Nat.lt_irrefl _)
          · refine iteFe (decide_eq_false fun e => c (V.str.inj e)) ⟨s', ?_⟩
            have ne : i ≠ i0 := fun e => by rw [e, hk0] at hk; cases Option.some.inj hk; exact c rfl
            rcases iv with ⟨le, eD⟩ | ⟨lt, r⟩
            · exact .inl ⟨by omega, eD⟩
            · exact .inr ⟨by omega, r⟩
        · rintro H' ⟨s', iv⟩
          have il := (List.getElem?_eq_some_iff.mp hk0).1
          rcases iv with ⟨le, _⟩ | ⟨_, T, eD, eT⟩
          · rw [List.length_map] at le; omega
          refine ⟨D, _, _, _, rfl, rfl, SqL.of eD, atI_nat (j := 0) rfl, T, _, rfl, SqT.of eT, rfl, _, _, rfl, _, _, rfl, _, _, rfl, rfl, ?_⟩
          have n1 : 0 < n := by omega
          have mem' : ∀ z, k0.r.s = some z → ∃ (i : Nat) (k : KRow), kr[i]? = some k ∧ k.z = z ∧ i + 1 < n := fun z e => by
            obtain ⟨j, k', lt, h', q⟩ := take_at (g := KRow.z) (ko.s i0 k0 z hk0 e)
            exact ⟨j, k', h', q, by omega⟩
          have rec_ : ∀ (Q2 : VK), (∀ H2, Same H' H2 → Q2 (.int (lateZ kr n k0.r.s)) H2) → spLLate n [.ref lk, K26F.sV k0.r.s] H' Q2 E0 := fun Q2 q => by
            unfold spLLate
            exact ⟨lk, kr, k0.r.s, rfl, s' _ _ ek, fun k hk => s' _ _ (krA k hk), ko, kn, n1, mem', q⟩
          cases ca : k0.r.a with
          | none =>
            refine ⟨_, rfl, rfl, _, rfl, iteT ⟨_, rfl, _, _, rfl, rfl, _, rfl, _, rfl, rec_ _ fun H2 s2 => ⟨_, rfl, _, _, rfl, rfl, ?_⟩⟩⟩
            have z := k H2 (s'.trans s2)
            have ea : K26F.addK k0.r = k0.r.g - 1 := by unfold K26F.addK; rw [ca]
            rw [ea] at z
            exact z
          | some a =>
            refine ⟨_, rfl, rfl, _, rfl, iteFe (decide_eq_false fun e => nomatch e) ⟨_, rfl, 2, k0.r.g, rfl, rfl, .inl ⟨by decide, by decide⟩, _, rfl, _, a, rfl, rfl, _, _, rfl, rfl, _, rfl, _, rfl, rec_ _ fun H2 s2 => ⟨_, rfl, _, _, rfl, rfl, ?_⟩⟩⟩
            have z := k H2 (s'.trans s2)
            have ea : K26F.addK k0.r = 2 * k0.r.g + a - 2 := by unfold K26F.addK; rw [ca]
            rw [ea] at z
            exact z
end
end K26
namespace K26
open PySem PySem.Spec PyProof.Rows L2 Jg
local macro_rules | `(tactic| walk_at "rd1") => `(tactic| (first
  | refine ⟨_, rfl, ?_⟩
  | refine ⟨_, _, rfl, rfl, ?_⟩
  | refine ⟨_, _, rfl, ?_⟩
  | refine ⟨rfl, ?_⟩
  | (refine ⟨show (0 : Int) < _ by omega, ?_⟩)
  | (refine ⟨Or.inl ⟨by omega, by omega⟩, ?_⟩)
  | (refine ⟨Or.inr ⟨by omega, by omega⟩, ?_⟩)
  | (refine ⟨(⟨by decide, by decide, by decide⟩ : CPow _ _), ?_⟩)
  | refine Or.inl ⟨_, rfl, ?_⟩
  | refine Or.inr ⟨_, rfl, ?_⟩
  | fail "rd"))
local macro_rules | `(tactic| walk_at "rd") => `(tactic| repeat' walk_at "rd1")
open K26C (StA SameB spDr spCh use_choose spWords Wd)
theorem lateZ_b {kr : List KRow} (ok : KrOk kr) : ∀ (n : Nat) (o : Option Str), 1 ≤ lateZ kr n o ∧ lateZ kr n o ≤ 1 + n * (3 * 10 ^ 30)
  | 0, _ => ⟨Int.le_refl _, by show (1 : Int) ≤ _; omega⟩
  | n + 1, none => ⟨Int.le_refl _, by show (1 : Int) ≤ _; omega⟩
  | n + 1, some z => by
    show 1 ≤ (match kr.find? (fun q => decide (q.z = z)) with | none => 1 | some q => lateZ kr n q.r.s + K26F.addK q.r) ∧ (match kr.find? (fun q => decide (q.z = z)) with | none => 1 | some q => lateZ kr n q.r.s + K26F.addK q.r) ≤ _
    cases c : kr.find? (fun q => decide (q.z = z)) with
    | none => exact ⟨Int.le_refl _, by show (1 : Int) ≤ _; omega⟩
    | some k =>
      have m := List.mem_of_find?_eq_some c
      have g := ok.g k m
      have b := lateZ_b ok n k.r.s
      have a : 0 ≤ K26F.addK k.r ∧ K26F.addK k.r ≤ 3 * 10 ^ 30 := by
        unfold K26F.addK
        cases ca : k.r.a with
        | none => exact ⟨by show 0 ≤ k.r.g - 1; omega, by show k.r.g - 1 ≤ _; omega⟩
        | some a => have := ok.a k m a ca; exact ⟨by show 0 ≤ 2 * k.r.g + a - 2; omega, by show 2 * k.r.g + a - 2 ≤ _; omega⟩
      show 1 ≤ lateZ kr n k.r.s + K26F.addK k.r ∧ lateZ kr n k.r.s + K26F.addK k.r ≤ _
      rw [Int.natCast_add, Int.add_mul]
      omega
end K26
namespace K26
open PySem PySem.Spec PyProof.Rows L2 Jg
local macro_rules | `(tactic| walk_at "rd1") => `(tactic| (first
  | refine ⟨_, rfl, ?_⟩
  | refine ⟨_, _, rfl, rfl, ?_⟩
  | refine ⟨_, _, rfl, ?_⟩
  | refine ⟨rfl, ?_⟩
  | (refine ⟨show (0 : Int) < _ by omega, ?_⟩)
  | (refine ⟨Or.inl ⟨by omega, by omega⟩, ?_⟩)
  | (refine ⟨Or.inr ⟨by omega, by omega⟩, ?_⟩)
  | (refine ⟨(⟨by decide, by decide, by decide⟩ : CPow _ _), ?_⟩)
  | refine Or.inl ⟨_, rfl, ?_⟩
  | refine Or.inr ⟨_, rfl, ?_⟩
  | fail "rd"))
local macro_rules | `(tactic| walk_at "rd") => `(tactic| repeat' walk_at "rd1")
open K26C (StA SameB spDr spCh use_choose spWords Wd)
open K26C (Td TdAt TdsAt Ww Wn Gn spTolds)
structure Lrg (p L : Addr) (H : Hp) (lk lc lm lt : Addr) (kr : List KRow) (cl : List Cl) (ms : List Int) (qs : List Addr) (ds : List Td) (parts keys hands : List Str) : Prop where
  e : H L = some (.lst [.ref lk, .ref lc, .ref lm, .ref lt])
  ek : H lk = some (.lst (kr.map fun k => V.ref k.t))
  ka : ∀ k ∈ kr, KrAt H k
  ko : KrOk kr
  k1 : 1 ≤ kr.length
  k4 : kr.length ≤ 4
  ec : H lc = some (.lst (cl.map fun q => V.ref q.t))
  ca : ∀ q ∈ cl, ClAt H q
  co : ClOk parts (kr.map (·.z)) cl
  c4 : cl.length ≤ 4
  em : H lm = some (.lst (ms.map V.int))
  mo : Ms0 ms
  m1 : 1 ≤ ms.length
  m7 : ms.length ≤ 7
  et : H lt = some (.lst (qs.map V.ref))
  td : TdsAt parts keys hands H qs ds
  ww : Ww parts keys hands
  ql : qs.length = ms.length
  st : StA H p
  mp : lm ≠ p
@[irreducible] def spLarge : Sp := fun vs H Q _ => ∃ (p : Addr) (mn : Int), vs = [.ref p, .int mn] ∧ StA H p ∧ 1 ≤ mn ∧ mn ≤ 7 ∧
  ∀ (L lk lc lm lt : Addr) (kr : List KRow) (cl : List Cl) (ms : List Int) (qs : List Addr) (ds : List Td) (parts keys hands : List Str) (H' : Hp), Lrg p L H' lk lc lm lt kr cl ms qs ds parts keys hands → SameB p H H' → Q (.ref L) H'
theorem use_kinds {p : Addr} {i sp ag : Int} {H : Hp} {Q : VK} {E : XK} (st : StA H p) (h0 : 0 ≤ i) (h1 : i ≤ 5) (sp0 : 0 < sp) (sp1 : sp ≤ 10 ^ 30) (ag0 : 0 < ag) (ag1 : ag ≤ 10 ^ 30)
    (k : ∀ (l : Addr) (kr : List KRow) (H' : Hp), H l = none → l ≠ p → kr.length = i.toNat → KrOk kr → H' l = some (.lst (kr.map fun k => V.ref k.t)) → (∀ k ∈ kr, KrAt H' k) → StA H' p → SameB p H H' → Q (.ref l) H') : spKinds [.ref p, .int i, .int sp, .int ag] H Q E := by
  unfold spKinds
  exact ⟨p, i.toNat, sp, ag, by rw [show ((i.toNat : Nat) : Int) = i by omega], st, by omega, sp0, sp1, ag0, ag1, k⟩
theorem use_moments {p : Addr} {i sp : Int} {H : Hp} {Q : VK} {E : XK} (st : StA H p) (h0 : 1 ≤ i) (h1 : i ≤ 7) (sp0 : 0 < sp) (sp1 : sp ≤ 3 * 10 ^ 30)
    (k : ∀ (l : Addr) (ms : List Int) (H' : Hp), H l = none → l ≠ p → ms.length = i.toNat → Ms0 ms → H' l = some (.lst (ms.map V.int)) → StA H' p → SameB p H H' → Q (.ref l) H') : spMoments [.ref p, .int i, .int sp] H Q E := by
  unfold spMoments
  exact ⟨p, i.toNat, sp, by rw [show ((i.toNat : Nat) : Int) = i by omega], st, by omega, by omega, sp0, sp1, k⟩
theorem use_callsD {K : PySem.W.Frag} {p l1 l2 : Addr} {i kp : Int} {parts : List Str} {kr : List KRow} {H : Hp} {Q : VK} {E : XK} (st : StA H p) (h0 : 0 ≤ i) (h1 : i ≤ 6) (e1 : H l1 = some (.lst (parts.map V.str))) (pa0 : 0 < parts.length) (pa1 : parts.length ≤ 100)
    (e2 : H l2 = some (.lst (kr.map fun k => V.ref k.t))) (ka : ∀ k ∈ kr, KrAt H k) (kr0 : 0 < kr.length) (kr1 : kr.length ≤ 100) (kp0 : 0 < kp) (kp1 : kp ≤ 10 ^ 30)
    (k : ∀ (l : Addr) (cl : List Cl) (H' : Hp), H l = none → l ≠ p → cl.length = i.toNat → ClOk parts (kr.map (·.z)) cl → H' l = some (.lst (cl.map fun q => V.ref q.t)) → (∀ q ∈ cl, ClAt H' q) → StA H' p → SameB p H H' → Q (.ref l) H') : spCallsD K [.ref p, .int i, .ref l1, .ref l2, .int kp] H Q E := by
  unfold spCallsD
  exact ⟨p, i.toNat, l1, l2, parts, kr, kp, by rw [show ((i.toNat : Nat) : Int) = i by omega], st, by omega, e1, pa0, pa1, e2, ka, kr0, kr1, kp0, kp1, k⟩
theorem use_tolds {K : PySem.W.Frag} {p l1 l2 l3 : Addr} {n : Nat} {parts keys hands : List Str} {H : Hp} {Q : VK} {E : XK} (g : Gn p l1 l2 l3 parts keys hands H) (w : Wn parts keys hands) (h1 : 1 ≤ n) (h2 : n ≤ 100)
    (k : ∀ (f : Addr) (qs : List Addr) (ds : List Td) (H' : Hp), H f = none → f ≠ p → qs.length = n → H' f = some (.lst (qs.map V.ref)) → TdsAt parts keys hands H' qs ds → StA H' p → SameB p H H' → Q (.ref f) H') : spTolds K [.ref p, .int n, .ref l1, .ref l2, .ref l3] H Q E := by
  unfold spTolds
  exact ⟨p, l1, l2, l3, n, parts, keys, hands, rfl, g, w, h1, h2, k⟩
section
variable {P : Program} {w : World} {K : PySem.W.Frag} {mg : Str → Option Value} {base : Heap}
theorem sc_law_large : FnScope ["stream", "many", "far", "kinds", "calls", "moments", "parts", "keys", "hands"] ["stream", "many"] (defScope s_law_large) := ⟨rfl, rfl, rfl, by decide +kernel, rfl, by decide +kernel, by decide +kernel⟩
theorem ok_large (D : DefK K mg "_law_large" s_law_large) (T : TxP K mg) (G_law_draw : Cal P w K mg base CX0 1 "_law_draw" spDr) (G_law_choose : Cal P w K mg base CX0 2 "_law_choose" (spCh K)) (G_law_words : Cal P w K mg base CX0 3 "_law_words" spWords) (G_law_kinds : Cal P w K mg base CX0 4 "_law_kinds" spKinds) (G_law_calls : Cal P w K mg base CX0 3 "_law_calls" (spCallsD K)) (G_law_moments : Cal P w K mg base CX0 2 "_law_moments" spMoments) (G_law_tolds : Cal P w K mg base CX0 4 "_law_tolds" (spTolds K)) : Cal P w K mg base CX0 5 "_law_large" spLarge := by
  refine D.cal sc_law_large (fun _ _ _ _ _ _ us hl => match us, hl with | [_, _], _ => rfl) (fun vs H Q E h => ?_) fun f cdv A outer s H vs Q E hr h => ?_
  · unfold spLarge at h; obtain ⟨p, mn, rfl, _⟩ := h; rfl
  · unfold spLarge at h; obtain ⟨p, mn, rfl, sA, m0, m7, k⟩ := h
    refine ⟨_, (pss_cons (ps_par3 (i := 6) (j := 7) (l := 8) (by rfl) sc_law_large.nd rfl rfl rfl (by decide) (by decide) (by decide) rfl rfl rfl (pa_cons (pe_c G_law_words hr (by decide) rfl (pa_cons (pv 0) (pa_cons (pe_op op_add pe_int (pe_c G_law_draw hr (by decide) rfl (pa_cons (pv 0) (pa_cons pe_int pa_nil)))) pa_nil))) (pa_cons (pe_c G_law_words hr (by decide) rfl (pa_cons (pv 0) (pa_cons pe_int pa_nil))) (pa_cons (pe_c G_law_words hr (by decide) rfl (pa_cons (pv 0) (pa_cons pe_int pa_nil))) pa_nil))) (by rfl))
      (pss_cons (ps_set (i := 2) sc_law_large.nd rfl (Or.inl rfl) (pe_c G_law_choose hr (by decide) rfl (pa_cons (pv 0) (pa_cons (pe_lst (pa_cons pe_int (pa_cons pe_int (pa_cons pe_int (pa_cons (pe_op op_pow pe_int pe_int) pa_nil))))) pa_nil))))
      (pss_cons (ps_set (i := 3) sc_law_large.nd rfl (Or.inl rfl) (pe_c G_law_kinds hr (by decide) rfl (pa_cons (pv 0) (pa_cons (pe_op op_add pe_int (pe_c G_law_draw hr (by decide) rfl (pa_cons (pv 0) (pa_cons pe_int pa_nil)))) (pa_cons (pv 2) (pa_cons (pv 2) pa_nil))))))
      (pss_cons (ps_set (i := 4) sc_law_large.nd rfl (Or.inl rfl) (pe_c G_law_calls hr (by decide) rfl (pa_cons (pv 0) (pa_cons (pe_op op_add pe_int (pe_c G_law_draw hr (by decide) rfl (pa_cons (pv 0) (pa_cons pe_int pa_nil)))) (pa_cons (pv 6) (pa_cons (pv 3) (pa_cons (pv 2) pa_nil)))))))
      (pss_cons (ps_set (i := 5) sc_law_large.nd rfl (Or.inl rfl) (pe_c G_law_moments hr (by decide) rfl (pa_cons (pv 0) (pa_cons (pe_op op_add pe_int (pe_c G_law_draw hr (by decide) rfl (pa_cons (pv 0) (pa_cons (pv 1) pa_nil)))) (pa_cons (pe_c G_law_choose hr (by decide) rfl (pa_cons (pv 0) (pa_cons (pe_lst (pa_cons (pv 2) (pa_cons (pe_op op_mul pe_int (pv 2)) (pa_cons pe_int pa_nil)))) pa_nil))) pa_nil)))))
      (pss_one (ps_ret (pe_lst (pa_cons (pv 3) (pa_cons (pv 4) (pa_cons (pv 5) (pa_cons (pe_c G_law_tolds hr (by decide) rfl (pa_cons (pv 0) (pa_cons (pe_callB call_len_seq (by rfl) T.b_len (by decide +kernel) (pa_cons (pv 5) pa_nil)) (pa_cons (pv 6) (pa_cons (pv 7) (pa_cons (pv 8) pa_nil)))))) pa_nil)))))))))))), ?_⟩
    refine ⟨_, rfl, _, rfl, use_drawB sA (by decide) (by decide +kernel) fun x1 H1 x10 x11 t1 s1 => ⟨_, _, rfl, rfl, p, 1 + x1, rfl, by omega, by omega, t1, fun l1 parts H2 n1 p1 wl1 wd1 nd1 e1 t2 s2 => ?_⟩⟩
    refine ⟨_, rfl, p, 4, rfl, by decide, by decide, t2, fun l2 keys H3 n2 p2 wl2 wd2 nd2 e2 t3 s3 => ⟨_, rfl, p, 3, rfl, by decide, by decide, t3, fun l3 hands H4 n3 p3 wl3 wd3 nd3 e3 t4 s4 => ⟨_, _, _, rfl, ?_⟩⟩⟩
    have wl2' : keys.length = 4 := wl2
    have wl3' : hands.length = 3 := wl3
    have e14 := s4 _ _ (s3 _ _ e1 p1) p1
    have e24 := s4 _ _ e2 p2
    have wlp : 1 ≤ parts.length ∧ parts.length ≤ 3 := by rw [wl1]; omega
    refine ⟨_, rfl, _, _, rfl, rfl, ⟨by decide, by decide, by decide⟩, by show 4 ≤ sizeLine; decide, fun a5 n5 => ?_⟩
    have p5 := t4.ne n5
    have g5 := same_new (o := .lst [.int 4, .int 4, .int 30, .int (10 ^ (30 : Int).toNat)]) n5
    refine use_choose (t4.keep g5) (SqL.of upd_same) p5 (by show 0 < 4; decide) (by show 4 < 1000; decide) fun x6 H6 hx6 t6 s6 => ?_
    obtain ⟨far, rfl, f0, f1⟩ : ∃ far : Int, x6 = .int far ∧ 0 < far ∧ far ≤ 10 ^ 30 := by
      have p30 : (10 : Int) ^ (30 : Int).toNat = 10 ^ 30 := by decide +kernel
      have hx6 : x6 ∈ [V.int 4, V.int 4, V.int 30, V.int (10 ^ 30)] := by rw [← p30]; exact hx6
      rcases List.mem_cons.mp hx6 with rfl | hx
      · exact ⟨4, rfl, by decide, by decide +kernel⟩
      rcases List.mem_cons.mp hx with rfl | hx
      · exact ⟨4, rfl, by decide, by decide +kernel⟩
      rcases List.mem_cons.mp hx with rfl | hx
      · exact ⟨30, rfl, by decide, by decide +kernel⟩
      rw [List.mem_singleton.mp hx]; exact ⟨10 ^ 30, rfl, by decide +kernel, Int.le_refl _⟩
    have s46 := (SameB.of g5).trans s6
    have e16 := s46 _ _ e14 p1
    have e26 := s46 _ _ e24 p2
    have e36 := s46 _ _ e3 p3
    have s06 : SameB p H H6 := s1.trans (s2.trans (s3.trans (s4.trans s46)))
    clear s46 g5
    refine ⟨_, rfl, _, rfl, use_drawB t6 (by decide) (by decide +kernel) fun x7 H7 x70 x71 t7 s7 => ⟨_, _, rfl, rfl, _, rfl, _, rfl, use_kinds t7 (by omega) (by omega) f0 f1 f0 f1 fun lk kr H8 nk lkp krl ko ek ka t8 s8 => ?_⟩⟩
    have kl : 1 ≤ kr.length ∧ kr.length ≤ 4 := by rw [krl]; omega
    have s68 := s7.trans s8
    have e18 := s68 _ _ e16 p1
    refine ⟨_, rfl, _, rfl, use_drawB t8 (by decide) (by decide +kernel) fun x9 H9 x90 x91 t9 s9 => ⟨_, _, rfl, rfl, _, rfl, _, rfl, _, rfl, use_callsD t9 (by omega) (by omega) (s9 _ _ e18 p1) (by omega) (by omega) (s9 _ _ ek lkp) (fun k hk => (ka k hk).keep t8 s9) (by omega) (by omega) f0 f1 fun lc cl HA nc lcp cll co ec ca tA sA' => ?_⟩⟩
    have ekA := sA' _ _ (s9 _ _ ek lkp) lkp
    have kaA : ∀ k ∈ kr, KrAt HA k := fun k hk => ((ka k hk).keep t8 s9).keep t9 sA'
    have s8A := s9.trans sA'
    have cl4 : cl.length ≤ 4 := by rw [cll]; omega
    refine ⟨_, rfl, _, rfl, _, rfl, use_drawB tA (by omega) (by omega) fun xB HB xB0 xB1 tB sB => ⟨_, _, rfl, rfl, _, rfl, _, rfl, _, rfl, _, _, rfl, rfl, .inl ⟨by decide, by decide⟩, by show 3 ≤ sizeLine; decide, fun aB nB => ?_⟩⟩
    have gB := same_new (o := .lst [.int far, .int (3 * far), .int 3]) nB
    refine use_choose (tB.keep gB) (SqL.of upd_same) (tB.ne nB) (by show 0 < 3; decide) (by show 3 < 1000; decide) fun xC HC hxC tC' sC => ?_
    obtain ⟨sp, rfl, q0, q1⟩ : ∃ sp : Int, xC = .int sp ∧ 0 < sp ∧ sp ≤ 3 * 10 ^ 30 := by
      have hxC : xC ∈ [V.int far, V.int (3 * far), V.int 3] := hxC
      rcases List.mem_cons.mp hxC with rfl | hx
      · exact ⟨far, rfl, f0, by omega⟩
      rcases List.mem_cons.mp hx with rfl | hx
      · exact ⟨3 * far, rfl, by omega, by omega⟩
      rw [List.mem_singleton.mp hx]; exact ⟨3, rfl, by decide, by decide +kernel⟩
    have sAC := sB.trans ((SameB.of gB).trans sC)
    refine use_moments tC' (by omega) (by omega) q0 q1 fun lm ms HD nm lmp ml mo em tD sD => ?_
    have m17 : 1 ≤ ms.length ∧ ms.length ≤ 7 := by rw [ml]; omega
    have sAD := sAC.trans sD
    have s6D := s68.trans (s8A.trans sAD)
    refine ⟨_, rfl, _, rfl, _, rfl, _, rfl, _, rfl, lm, _, rfl, .inl (SqL.of em), _, rfl, _, rfl, _, rfl, ?_⟩
    have lml : (ms.map V.int).length = ms.length := List.length_map ..
    have gn : Gn p l1 l2 l3 parts keys hands HD := ⟨tD, s6D _ _ e16 p1, s6D _ _ e26 p2, s6D _ _ e36 p3⟩
    have wn : Wn parts keys hands := ⟨by omega, wlp.2, by omega, by omega, nd2, by omega, by omega, nd3⟩
    have ww : Ww parts keys hands := ⟨wn, nd1, by omega, by omega, wd1, wd2, wd3⟩
    refine use_tolds (n := (ms.map V.int).length) gn wn (by rw [lml]; exact m17.1) (by rw [lml]; omega) fun lt qs ds HF nt ltp ql et tds tF sF => ⟨by show 4 ≤ sizeLine; decide, fun L nL => ?_⟩
    have gL := same_new (o := .lst [.ref lk, .ref lc, .ref lm, .ref lt]) nL
    have sAF := sAD.trans sF
    refine k L lk lc lm lt kr cl ms qs ds parts keys hands _ ⟨upd_same, gL _ _ (sAF _ _ ekA lkp), fun k hk => ((kaA k hk).keep tA sAF).keep tF (SameB.of gL), ko, kl.1, kl.2, gL _ _ (sAF _ _ ec lcp), fun q hq => ((ca q hq).keep tA sAF).keep tF (SameB.of gL), co, cl4, gL _ _ (sF _ _ em lmp), mo, m17.1, m17.2, gL _ _ et, tds.same gL, ww, by rw [ql, lml], tF.keep gL, lmp⟩ ?_
    exact (s06.trans (s68.trans (s8A.trans sAF))).trans (SameB.of gL)
end
end K26
namespace Jg
open PySem PySem.Spec PyProof.Rows L2
section
variable {P : Program} {w : World} {K : PySem.W.Frag} {mg : Str → Option Value} {base : Heap} {k : Nat} {x : Str} {st : Stmt} {c : Addr} {N ps : List Str} {sp : Sp}
/-- the def itself, as it stands -/
theorem DefC.fnL (D : DefC K mg x st c) : ∃ (f : Addr) (kV doc pm : Value) (an : Option Addr) (ct : Value), mg x = some (.ref f) ∧ ∀ (P : Program) (w : World) (base : Heap) (k : Nat) (N ps : List Str) (sp : Sp), FnScope N ps (defScope st) → (∀ vs H Q E, sp vs H Q E → vs.length = ps.length) →
    (∀ (f : Addr) (A : Around) (outer : List Env) (s : Shared) (H : Hp) (vs : List V) (Q : VK) (E : XK), (cxOf CX0 P w K mg base N x (defScope st) f (.ref c) A outer s H E).nox.A.guards = some [] → Room k (A.deeper (envOfC x (defScope st) s.heap.objs.size f (.ref c))) → sp vs H Q E →
      ∃ t, PSs (cxOf CX0 P w K mg base N x (defScope st) f (.ref c) A outer s H E).nox (defBody st) t ∧ t { nx := fun _ H' => Q .non H', rt := Q } (start N vs) H) →
    FnG P w K mg base CX0 (k + 1) f (PySem.W.fnOf x x (defArgs st) (defBody st) (defScope st) .none kV doc pm an (.ref c) ct) ps sp := by
  obtain ⟨f, oc, od, kV, doc, pm, an, ct, osl, lk, hcd, kp, hm⟩ := D.ex
  refine ⟨f, kV, doc, pm, an, ct, hm, fun P w base k N ps sp S len hb => ⟨len, fun A g outer s H args us vs Q E hr e0 hb2 r hsp => ?_⟩⟩
  have inHeap : K.In s.heap := e0.mod.kin.keeps fun b o e => (e0.bs b o e).1
  have kinds : ∀ y ∈ ps.zip us, (defScope st).names.lookup y.1 = some .local ∨ ((defScope st).names.lookup y.1 = some .cell ∧ ((cellsFrom (s.heap.objs.size + 1) (defScope st).names []).lookup y.1).isSome = true) := fun y hy =>
    (S.par y.1 (List.of_mem_zip hy).1).imp id fun q => ⟨q, PySem.W.cellsFrom_some _ _ _ (.inl q)⟩
  refine codeAny_call_function hr.depth (inHeap _ _ lk) rfl S.co S.gen rfl (PySem.W.codeRec_of inHeap hcd) (hb2 _ _ _ _ ?_)
  refine wpAny_newFunctionEnv_cells S.kind kinds fun env he s1 y => ?_
  subst he
  obtain ⟨t, ht, hq⟩ := hb f A outer s H vs Q E (guards_deeper g) (hr.deeper _) hsp
  have I := inv_start (CX := CX0) (E := E) S hr.hd e0 (len _ _ _ _ hsp) r y
  refine ⟨(e0.mod.nolimit.keeps fun b o e => (e0.bs b o e).1).keeps y.toInCall.keep, codeAny_func (wpAny_mono (ht.nox.run [] s1 (start N vs) H _ I hq) (fun fl s' hs => ?_) fun _ _ hs => hs)⟩
  match fl, hs with
  | .ret u, ⟨v, _, H', J, rv, q⟩ => exact ⟨v, H', J.os, J.bare, J.base, J.hok, rv, q⟩
  | .next, ⟨_, H', J, q⟩ => exact ⟨.non, H', J.os, J.bare, J.base, J.hok, rfl, q⟩
  | .brk, ⟨_, _, _, q⟩ => exact False.elim q
  | .cont, ⟨_, _, _, q⟩ => exact False.elim q
end
section
variable {X : Cx}
/-- x(lambda: body), the maker's code object at c with its table at P -/
theorem pe_lamT {T : List (Addr × Str)} {TT : (XK → Hp → VK → Prop) → Hp → VK → Prop} {x a : Str} {st : Stmt} {c P : Addr} {k : Nat} {Ng : List Str} {params : Arguments} {body : Expr} {scope : Scope} {t : XK → TE} {p lpos pos : Pos} (D : DefK X.K X.mg x st) (Sg : FnScope Ng [a] (defScope st)) (b : BindOk x x st [a])
    (hG : ∀ (g : Addr) (cdg : Value), LamX.GivesTo X Ng x (defScope st) g cdg (defBody st) a (X.env.qual ++ "<lambda>") TT) (TB : LamX.TabB X.base X.mg c P) (hcode : X.env.code = .ref c) (hmT : (P, X.env.qual ++ "<lambda>") ∈ T) (huT : ∀ p ∈ T, p.1 = P → p.2 = X.env.qual ++ "<lambda>") (hr : Room (k + 2) X.A)
    (hbody : ∀ (A : Around) (outer : List Env) (s : Shared) (H : Hp) (E : XK) (f c' : Addr), Room k (A.deeper (LamX.lamEnv X scope s.heap.objs.size f c')) → PE (LamX.lamCx X A outer s H E scope f c') body (t E))
    (hg : Gl X x) (hNg : Ng[0]? = some a) (hva : Vis (defScope st) a) (L : LamX.LamS X.env.scope scope) (hdef : defaultsOf params X.env = ([], []))
    (hbind : ∀ (q : Str) (cl : List (Str × Addr)) (pm cv ctv : Value), bindArgs (PySem.W.kla_fn "<lambda>" q params body scope cl pm cv ctv) ⟨[], []⟩ = pure [])
    (hdb : (x == ("__debug__" : Str)) = false := by decide) (hd : (a == ("__debug__" : Str)) = false := by decide) (hcd : (a == ("__classdict__" : Str)) = false := by decide) :
    PE X (.Call (.Name x p) [.Lambda params body scope lpos] [] pos) (LamX.tLam T TT t) := by
  obtain ⟨g, fd, F, hm⟩ := D.ex
  have F' := F
  obtain ⟨oc, od, kV, doc, pm, an, cdv, ct, osl, rfl, lk, hcg⟩ := F.ex
  exact LamX.pe_lamcall hg hm F'.kp lk hcg (F'.binds b) Sg hNg hva (hG g cdv) TB hcode hmT huT hr L hdef hbind hbody hdb hd hcd
end
end Jg
namespace Jg
open PySem PySem.Spec PyProof.Rows L2
end Jg
namespace Jg
open PySem PySem.Spec PyProof.Rows L2
/-- the items from i on, k of them -/
def allF (f : Nat → Bool) : Nat → Nat → Bool
  | _, 0 => true
  | i, k + 1 => f i && allF f (i + 1) k
section
open PySem.SeqAt AutoSeq1 MeetsSeq MeetsSeq2 MeetsSeq3 SeqRoads2
variable {prog : Program} {w : World} {A : Around} {R : Result → Shared → Prop}
/-- two lists of one length that stand, with what their items answer -/
def StandL (prog : Program) (w : World) (A : Around) (E : Value → Shared → Prop) (l b : Addr) (N : Nat) (f : Nat → Bool) (I : Shared → Prop) : Prop :=
  ∀ s, I s → ∃ (u v : Array Value) (n m : Nat), s.heap.get? l = some { cls := .type "list", data := .seq u n } ∧ s.heap.get? b = some { cls := .type "list", data := .seq v m } ∧ u.size = N ∧ v.size = N ∧
    ∀ i (h1 : i < u.size) (h2 : i < v.size), wpAny (model prog w) A.in1 (eqBool u[i] v[i]) (fun r s' => r = f i ∧ I s') E s
theorem loop_b {l b : Addr} {N : Nat} {f : Nat → Bool} {I : Shared → Prop} (hl : StandL prog w A (fun e s' => R (.error e) s') l b N f I) :
    ∀ k i : Nat, N - i = k → i ≤ N → (∀ s, I s → R (.ok (.ret (.bool (allF f i k)))) s) → ∀ s, I s →
      wpAny (model prog w) A.in1 (Builtin.«list.__eq__.loop» ⟨[.ref l, .ref b, rawInt i, rawInt 2], []⟩) (GQ.FinOf prog w A R) (fun e s' => R (.error e) s') s := by
  intro k
  induction k with
  | zero =>
    intro i hk hi fin s h
    obtain ⟨u, v, n, m, e1, e2, z1, z2, _⟩ := hl s h
    have q := fin s h
    have u0 : u[((i : Nat) : Int).toNat]? = none := by simp; omega
    have v0 : v[((i : Nat) : Int).toNat]? = none := by simp; omega
    obtain ⟨hp, g, d, tk, os⟩ := s
    wp_walk using wpAny_loadPart' e1, wpAny_loadPart' e2
    rw [u0, v0]
    wp_walk using wpAny_loadPart' e1, wpAny_loadPart' e2
    show R (.ok (.ret (.bool (u.size == v.size)))) _
    rw [z1, z2]
    have q : R (.ok (.ret (.bool true))) _ := q
    simpa using q
  | succ k ih =>
    intro i hk hi fin s h
    obtain ⟨u, v, n, m, e1, e2, z1, z2, turn⟩ := hl s h
    have l1 : i < u.size := by omega
    have l2 : i < v.size := by omega
    have t := turn i l1 l2
    have u1 : u[((i : Nat) : Int).toNat]? = some u[i] := by simp [l1]
    have v1 : v[((i : Nat) : Int).toNat]? = some v[i] := by simp [l2]
    have c : ((i : Int) + 1) = ((i + 1 : Nat) : Int) := by omega
    obtain ⟨hp, g, d, tk, os⟩ := s
    wp_walk using wpAny_loadPart' e1, wpAny_loadPart' e2
    rw [u1, v1]
    refine wpAny_bind (wpAny_mono t (fun r s2 q => ?_) fun _ _ x => x)
    obtain ⟨rfl, i2⟩ := q
    cases fi : f i with
    | true =>
      have rec_ := ih (i + 1) (by omega) (by omega) (fun s hs => by have := fin s hs; rw [show allF f i (k + 1) = allF f (i + 1) k by show (f i && _) = _; rw [fi]; rfl] at this; exact this) s2 i2
      obtain ⟨hp2, g2, d2, tk2, os2⟩ := s2
      wp_walk
      rw [c]
      exact ⟨plainId_quiet plain_eq_loop _, codeAny_builtin entry_eq_loop (by
        rw [Around.under_plainId plain_eq_loop _]
        exact rec_)⟩
    | false =>
      have q := fin s2 i2
      rw [show allF f i (k + 1) = false by show (f i && _) = _; rw [fi]; rfl] at q
      obtain ⟨u', v', n', m', e1', e2', z1', z2', _⟩ := hl s2 i2
      have u1' : u'[((i : Nat) : Int).toNat]? = some (u'[i]'(by omega)) := by simp
      have v1' : v'[((i : Nat) : Int).toNat]? = some (v'[i]'(by omega)) := by simp
      obtain ⟨hp2, g2, d2, tk2, os2⟩ := s2
      wp_walk using wpAny_loadPart' e1', wpAny_loadPart' e2'
      rw [u1', v1']
      wp_walk
      exact q
/-- == of two lists that stand: by their lengths, then item by item up to the first that differs -/
theorem list_b {l b : Addr} {N1 N2 : Nat} {f : Nat → Bool} {I : Shared → Prop} (hl : N1 = N2 → StandL prog w A (fun e s' => R (.error e) s') l b N1 f I)
    (hz : ∀ s, I s → ∃ (u v : Array Value) (n m : Nat), s.heap.get? l = some { cls := .type "list", data := .seq u n } ∧ s.heap.get? b = some { cls := .type "list", data := .seq v m } ∧ u.size = N1 ∧ v.size = N2)
    (fin : ∀ s, I s → R (.ok (.ret (.bool (decide (N1 = N2) && allF f 0 N1)))) s) {s : Shared} (h : I s) :
    wpAny (model prog w) A.in1 (Builtin.«list.__eq__» ⟨[.ref l, .ref b], []⟩) (GQ.FinOf prog w A R) (fun e s' => R (.error e) s') s := by
  obtain ⟨u, v, n, m, e1, e2, z1, z2⟩ := hz s h
  have f3 := AutoSeq1.sub_list_list
  by_cases c : N1 = N2
  · have rec_ := loop_b (A := A) (R := R) (hl c) _ 0 rfl (Nat.zero_le _) (fun s hs => by have := fin s hs; rw [decide_eq_true c, Bool.true_and] at this; exact this) s h
    obtain ⟨hp, g, d, tk, os⟩ := s
    have hne : ¬ (u.size != v.size) = true := by simp [z1, z2, c]
    wp_walk using wpAny_loadPart' e1, wpAny_loadPart' e2
    exact ⟨plainId_quiet plain_eq_loop _, codeAny_builtin entry_eq_loop (by
      rw [Around.under_plainId plain_eq_loop _]
      exact rec_)⟩
  · have q := fin s h
    rw [decide_eq_false c, Bool.false_and] at q
    obtain ⟨hp, g, d, tk, os⟩ := s
    have hne : (u.size != v.size) = true := by simp [z1, z2, c]
    wp_walk using wpAny_loadPart' e1, wpAny_loadPart' e2
    exact q
end
section
open PySem.SeqAt
variable {prog : Program} {w : World} {A : Around} {E : Value → Shared → Prop}
theorem rc_list_b {l b : Addr} {N1 N2 : Nat} {f : Nat → Bool} {I : Shared → Prop} {Q : Value → Shared → Prop} (hu : A.units < cLine) (hl : N1 = N2 → StandL prog w A E l b N1 f I)
    (hz : ∀ s, I s → ∃ (u v : Array Value) (n m : Nat), s.heap.get? l = some { cls := .type "list", data := .seq u n } ∧ s.heap.get? b = some { cls := .type "list", data := .seq v m } ∧ u.size = N1 ∧ v.size = N2)
    (fin : ∀ s, I s → Q (.bool (decide (N1 = N2) && allF f 0 N1)) s) {s : Shared} (h : I s) : wpAny (model prog w) A (richCompare .Eq (.ref l) (.ref b)) Q E s := by
  obtain ⟨u, v, n, m, e1, e2, _, _⟩ := hz s h
  refine wpAny_richCompare_same_room (op := .Eq) ⟨_, e1, rfl⟩ ⟨_, e2, rfl⟩ F.slot_list_eq (GQ.call_here F.slot_list_eq ⟨_, e1, rfl⟩ F.entry_list_eq (F.args_list_eq_2 _ _) ?_) hu
  exact list_b (R := wants (fun v s' => v ≠ .notImplemented ∧ Q v s') E) hl hz (fun s' q => ⟨(fun x => nomatch x), fin s' q⟩) h
end
def MonB (D : Dqv) : Prop := ∀ x y H H' b, Ext H H' → D x y H b → D x y H' b
section
variable {X : Cx} {n m : Nat} {D D' : Dqv}
/-- flat values -/
def FlB : Dqv := fun x y _ b => flatV x = true ∧ flatV y = true ∧ eqV x y = b
theorem mon_flB : MonB FlB := fun _ _ _ _ _ _ d => d
theorem eqB_flat : EqB X 0 FlB := by
  intro A pins s σ H x y u v b sb I rx ry d
  obtain ⟨fx, fy, e⟩ := d
  have q := eqAt_V (A := A) (s := s) rx ry fx fy
  rw [e] at q
  exact q X.prog X.w X.xe _ ⟨rfl, H, I, Ext.rfl'⟩
/-- item by item -/
def PrB (D : Dqv) (xs ys : List V) (H : Hp) (f : Nat → Bool) : Prop := ∀ (i : Nat) x y, xs[i]? = some x → ys[i]? = some y → D x y H (f i)
def GrownI (X : Cx) (pins : List (Addr × Obj)) (σ : L2.St) (H : Hp) (s' : Shared) : Prop := ∃ H', Inv X pins σ H' s' ∧ Ext H H'
theorem turn_b (hD : MonB D) (h : EqB X n D) {A : Around} (sb : Sub X (n + 1) A) {pins : List (Addr × Obj)} {σ : L2.St} {H : Hp} {xs ys : List V} {f : Nat → Bool} {us vs : List Value} (p : PrB D xs ys H f) (r : Vals xs us) (r2 : Vals ys vs)
    (i : Nat) (h1 : i < us.toArray.size) (h2 : i < vs.toArray.size) (s' : Shared) (l : GrownI X pins σ H s') :
    wpAny (model X.prog X.w) A.in1 (eqBool us.toArray[i] vs.toArray[i]) (fun r s2 => r = f i ∧ GrownI X pins σ H s2) X.xe s' := by
  obtain ⟨H1, I1, e1⟩ := l
  have h1' : i < us.length := by simpa using h1
  have h2' : i < vs.length := by simpa using h2
  have k1 : i < xs.length := by rw [r.length]; exact h1'
  have k2 : i < ys.length := by rw [r2.length]; exact h2'
  obtain ⟨u, hu, ru⟩ := r.get (List.getElem?_eq_getElem k1)
  obtain ⟨v, hv, rv⟩ := r2.get (List.getElem?_eq_getElem k2)
  rw [List.getElem?_eq_getElem h1'] at hu
  rw [List.getElem?_eq_getElem h2'] at hv
  have eu : us.toArray[i] = u := by rw [← Option.some.inj hu]; simp
  have ev : vs.toArray[i] = v := by rw [← Option.some.inj hv]; simp
  rw [eu, ev]
  refine wpAny_mono (h A.in1 pins s' σ H1 _ _ u v _ sb.in1 I1 ru rv (hD _ _ _ _ _ e1 (p i _ _ (List.getElem?_eq_getElem k1) (List.getElem?_eq_getElem k2)))) (fun r s2 q => ?_) fun _ _ x => x
  obtain ⟨hr, H2, I2, e2⟩ := q
  exact ⟨hr, H2, I2, e1.trans e2⟩
def LstB (D : Dqv) : Dqv := fun x y H b => ∃ (a c : Addr) (xs ys : List V) (f : Nat → Bool), x = .ref a ∧ y = .ref c ∧ H a = some (.lst xs) ∧ H c = some (.lst ys) ∧ (xs.length = ys.length → PrB D xs ys H f) ∧ b = (decide (xs.length = ys.length) && allF f 0 xs.length)
theorem rcB_list (hD : MonB D) (h : EqB X n D) : RcB X (n + 1) (LstB D) := by
  intro A pins s σ H x y u v b sb I rx ry d
  obtain ⟨a, c, xs, ys, f, rfl, rfl, ha, hc, p, rfl⟩ := d
  cases rx
  cases ry
  refine rc_list_b (N1 := xs.length) (N2 := ys.length) (f := f) (I := GrownI X pins σ H) sb.room.units0 (fun l s' q => ?_) (fun s' q => ?_) (fun s' q => ⟨rfl, q⟩) ⟨H, I, Ext.rfl'⟩
  · obtain ⟨H1, I1, e1⟩ := id q
    obtain ⟨z, us, k, r, e⟩ := I1.hok a _ (e1 _ _ ha)
    obtain ⟨z2, vs, k2, r2, e2⟩ := I1.hok c _ (e1 _ _ hc)
    exact ⟨us.toArray, vs.toArray, k, k2, e, e2, by rw [List.size_toArray, ← r.length], by rw [List.size_toArray, ← r2.length, l], fun i h1 h2 => turn_b hD h sb (p l) r r2 i h1 h2 s' q⟩
  · obtain ⟨H1, I1, e1⟩ := q
    obtain ⟨z, us, k, r, e⟩ := I1.hok a _ (e1 _ _ ha)
    obtain ⟨z2, vs, k2, r2, e2⟩ := I1.hok c _ (e1 _ _ hc)
    exact ⟨us.toArray, vs.toArray, k, k2, e, e2, by rw [List.size_toArray, ← r.length], by rw [List.size_toArray, ← r2.length]⟩
/-- x == y as an expression -/
def rEqB (D : Dqv) : R2 := fun x y H Q => ∃ b, D x y H b ∧ ∀ H', Ext H H' → Q (.bl b) H'
theorem op_eqB (h : RcB X n D) (hr : Room n X.A) : OpR X (compareOp .Eq) (rEqB D) := by
  intro pins s σ H x y v u Q I rx ry hq
  obtain ⟨b, d, q⟩ := hq
  show wpAny (model X.prog X.w) X.A (richCompare .Eq v u) (EP X pins σ Q) X.xe s
  refine wpAny_mono (h X.A pins s σ H x y v u b ⟨hr, rfl⟩ I rx ry d) (fun r s' z => ?_) fun _ _ x => x
  obtain ⟨hr', H', I', e⟩ := z
  subst hr'
  exact ⟨.bl b, H', I', rfl, q H' e⟩
end
end Jg
namespace Jg
open PySem PySem.Spec PyProof.Rows L2
section
variable {X : Cx} {n k j : Nat} {D : Dqv} {C : Addr} {R : Addr → Addr → Hp → Bool → Prop} {sp : Sp}
end
end Jg
namespace Jg
open PySem PySem.W
end Jg
namespace Jg
open PySem PySem.Spec PyProof.Rows L2
theorem TsAt.more {H : Hp} {t : Addr} {a b : Int} (e : H t = some (.tup [.int a, .int b])) : ∀ {ts : List Addr} {ps : List (Int × Int)}, TsAt H ts ps → TsAt H (ts ++ [t]) (ps ++ [(a, b)])
  | _, _, .nil => .cons e .nil
  | _, _, .cons z r => .cons z (r.more e)
theorem lay_prs : ∀ ps : List (Int × Int), PyData.canLayAll0 (ps.map dPr) = true
  | [] => rfl
  | q :: ps => by
    show (PyData.canLay0 (dPr q) && PyData.canLayAll0 (ps.map dPr)) = true
    rw [lay_prs ps]; rfl
theorem depth_prs : ∀ ps : List (Int × Int), PyData.depthAll (ps.map dPr) ≤ 1
  | [] => by show (0 : Nat) ≤ 1; decide
  | q :: ps => by
    show max (PyData.depth (dPr q)) (PyData.depthAll (ps.map dPr)) ≤ 1
    have a := depth_prs ps
    have b : PyData.depth (dPr q) = 1 := rfl
    omega
theorem shaped_pr (q : Int × Int) : SeqAt.shaped (dPr q) = true := shaped_tup [q.1, q.2]
theorem shaped_prs (ps : List (Int × Int)) : SeqAt.shaped (.list (ps.map dPr)) = true := by
  show (PyData.canLayAll0 (ps.map dPr) && decide (PyData.depthAll (ps.map dPr) + 1 ≤ 64)) = true
  rw [lay_prs, decide_eq_true (by have := depth_prs ps; omega)]; rfl
theorem eqv_pr (p q : Int × Int) : PyData.eqv (dPr p) (dPr q) = decide (p = q) := by
  obtain ⟨a, b⟩ := p
  obtain ⟨c, d⟩ := q
  have z := eqv_tup [a, b] [c, d]
  rw [pair_dec] at z
  exact z
theorem any_prs (q : Int × Int) : ∀ ps : List (Int × Int), ((ps.map dPr).any fun z => PyData.eqv z (dPr q)) = decide (q ∈ ps)
  | [] => rfl
  | p :: ps => by
    have ih := any_prs q ps
    show (PyData.eqv (dPr p) (dPr q) || ((ps.map dPr).any fun z => PyData.eqv z (dPr q))) = _
    rw [ih, eqv_pr]
    by_cases c : p = q
    · subst c; simp
    · have c' : ¬ q = p := fun z => c z.symm
      simp [c, c']
theorem pr_dp {K : PySem.W.Frag} {H : Hp} {t : Addr} {a b : Int} (e : H t = some (.tup [.int a, .int b])) : Dp K H (.ref t) (dPr (a, b)) := .tup (SqT.of e) (.cons (.int _) (.cons (.int _) .nil))
theorem ask_notInP {K : PySem.W.Frag} {H : Hp} {t l : Addr} {a b : Int} {ps : List (Int × Int)} {Q : VK} (e : H t = some (.tup [.int a, .int b])) (h : PrsAt H l ps) (q : Q (.bl (!decide ((a, b) ∈ ps))) H) : rNotInD K (.ref t) (.ref l) H Q :=
  ⟨_, _, pr_dp e, h.dp, shaped_pr _, shaped_prs _, by rw [any_prs]; exact q⟩
end Jg
namespace Jg
open PySem PySem.Spec PyProof.Rows L2
end Jg
namespace Jg
open PySem PySem.Spec PyProof.Rows L2
theorem TtAt.app {H : Hp} : ∀ {ts us : List Addr} {ps qs : List Tr}, TtAt H ts ps → TtAt H us qs → TtAt H (ts ++ us) (ps ++ qs)
  | _, _, _, _, .nil, h => h
  | _, _, _, _, .cons z r, h => .cons z (r.app h)
theorem TtAt.more {H : Hp} {t : Addr} {q : Tr} {ts : List Addr} {ps : List Tr} (h : TtAt H ts ps) (e : H t = some (.tup (Tr.v q))) : TtAt H (ts ++ [t]) (ps ++ [q]) := h.app (.cons e .nil)
theorem push_mono {H : Hp} {D : Addr} {xs : List V} {o : HO} (eD : H D = some (.lst xs)) : ∀ q u, H q = some u → upd H D o q = some u ∨ ∀ vs, u ≠ .tup vs := fun q u e => by
  by_cases c : q = D
  · subst c
    rw [eD] at e
    cases Option.some.inj e
    exact .inr fun _ z => nomatch z
  · rw [upd_ne c]; exact .inl e
theorem TrsAt.push {H : Hp} {D t : Addr} {us : List Addr} {ps : List Tr} {q : Tr} (eD : H D = some (.lst (us.map V.ref))) (tt : TtAt H us ps) (et : H t = some (.tup (Tr.v q))) : TrsAt (upd H D (.lst (us.map V.ref ++ [.ref t]))) D (ps ++ [q]) := by
  have n : t ≠ D := fun z => by rw [z, eD] at et; cases et
  exact ⟨us ++ [t], by rw [upd_same, List.map_append]; rfl, (tt.mono fun b o e => (push_mono eD b o e).imp id fun z q => z _).more (by rw [upd_ne n]; exact et)⟩
theorem PrsAt.push {H : Hp} {D t : Addr} {us : List Addr} {ps : List (Int × Int)} {a b : Int} (eD : H D = some (.lst (us.map V.ref))) (tt : TsAt H us ps) (et : H t = some (.tup [.int a, .int b])) : PrsAt (upd H D (.lst (us.map V.ref ++ [.ref t]))) D (ps ++ [(a, b)]) := by
  have n : t ≠ D := fun z => by rw [z, eD] at et; cases et
  exact ⟨us ++ [t], by rw [upd_same, List.map_append]; rfl, TsAt.more (by rw [upd_ne n]; exact et) (tt.mono fun b o e => (push_mono eD b o e).imp id fun z q1 q2 => z _)⟩
end Jg
namespace K26
open PySem PySem.Spec PyProof.Rows L2 Jg
local macro_rules | `(tactic| walk_at "rd1") => `(tactic| (first
  | refine ⟨_, rfl, ?_⟩
  | refine ⟨_, _, rfl, rfl, ?_⟩
  | refine ⟨_, _, rfl, ?_⟩
  | refine ⟨rfl, ?_⟩
  | (refine ⟨show (0 : Int) < _ by omega, ?_⟩)
  | (refine ⟨Or.inl ⟨by omega, by omega⟩, ?_⟩)
  | (refine ⟨Or.inr ⟨by omega, by omega⟩, ?_⟩)
  | (refine ⟨(⟨by decide, by decide, by decide⟩ : CPow _ _), ?_⟩)
  | refine Or.inl ⟨_, rfl, ?_⟩
  | refine Or.inr ⟨_, rfl, ?_⟩
  | fail "rd"))
local macro_rules | `(tactic| walk_at "rd") => `(tactic| repeat' walk_at "rd1")
/-- read by a machine: the moment, or the last one at which its source tells the edition -/
def lastR (ms : List Int) (n : Nat) (la m : Int) : Int := match endO ms la n with
  | none => m
  | some e => if m < e then m else e
/-- the moment is one at which the edition is held, with this lateness -/
def InHd (ms : List Int) (n : Nat) (la m : Int) : Prop := ms.getD n 0 ≤ m ∧ ∀ e, endO ms la n = some e → m ≤ e
theorem end_ge {ms : List Int} {n : Nat} {la e : Int} (mo : MsOk ms) (l1 : 1 ≤ la) (hn : n < ms.length) (h : endO ms la n = some e) : ms.getD n 0 ≤ e := by
  unfold endO at h
  by_cases c : n + 1 = ms.length
  · rw [if_pos c] at h; cases h
  · rw [if_neg c] at h
    cases h
    have := mo.inc n _ _ (ms_at hn) (ms_at (n := n + 1) (by omega))
    omega
theorem lastR_in {ms : List Int} {n : Nat} {la m : Int} (mo : MsOk ms) (l1 : 1 ≤ la) (hn : n < ms.length) (h : ms.getD n 0 ≤ m) : InHd ms n la (lastR ms n la m) ∧ lastR ms n la m ≤ m := by
  unfold lastR InHd
  cases c : endO ms la n with
  | none => exact ⟨⟨h, fun e z => nomatch z⟩, Int.le_refl _⟩
  | some e =>
    have g := end_ge mo l1 hn c
    refine ⟨⟨?_, fun e' z => ?_⟩, ?_⟩
    · show ms.getD n 0 ≤ if m < e then m else e
      split <;> omega
    · cases Option.some.inj z
      show (if m < e then m else e) ≤ e
      split <;> omega
    · show (if m < e then m else e) ≤ m
      split <;> omega
theorem last_span {ms : List Int} {n : Nat} {la : Int} (mo : MsOk ms) (l1 : 1 ≤ la) (hn : n < ms.length) (bd : ∀ m ∈ ms, K26R.Bnd m ∧ K26R.Bnd (m + (la - 2))) : K26R.lastV (spanR ms n (la - 2)) = K26F.oV (endO ms la n) := by
  have b1 := (bd _ (ms_mem hn)).1
  unfold K26R.Bnd at b1
  unfold spanR endO
  by_cases c : n + 1 = ms.length
  · rw [if_pos c]
    show (if K26R.B < ms.getD n 0 then V.non else if K26R.B = K26R.B then V.non else V.int K26R.B) = V.non
    rw [if_neg (by omega), if_pos rfl]
  · rw [if_neg c]
    have lt := mo.inc n _ _ (ms_at hn) (ms_at (n := n + 1) (by omega))
    have b2 := (bd _ (ms_mem (ms := ms) (n := n + 1) (by omega))).2
    unfold K26R.Bnd at b2
    have nlt : ¬ ms.getD (n + 1) 0 + (la - 2) < ms.getD n 0 := by omega
    show K26R.lastV (if ms.getD (n + 1) 0 + (la - 2) < ms.getD n 0 then _ else _) = _
    rw [if_neg nlt]
    show (if ms.getD (n + 1) 0 + (la - 2) < ms.getD n 0 then V.non else if ms.getD (n + 1) 0 + (la - 2) = K26R.B then V.non else V.int (ms.getD (n + 1) 0 + (la - 2))) = V.int (ms.getD (n + 1) 0 + (la - 2))
    rw [if_neg nlt, if_neg (by omega)]
@[irreducible] def spLsr (PC C FC KC : Addr) : Sp := fun vs H Q _ => ∃ (p f : Addr) (es : List Ed) (ks : K26F.Ks) (cl : List Cl) (so : Option Str) (n : Nat) (m la : Int), vs = [.ref p, .ref f, K26F.sV so, .int (n : Nat), .int m] ∧ PlAt PC C H p es ∧ FlAt FC KC H f ks cl ∧ LaIs ks so la ∧ 1 ≤ la ∧ SpOk es la ∧ n < es.length ∧ MsOk (mos es) ∧
  ∀ H', Same H H' → Q (.int (lastR (mos es) n la m)) H'
theorem use_lsr {PC C FC KC p f : Addr} {es : List Ed} {ks : K26F.Ks} {cl : List Cl} {so : Option Str} {n : Nat} {m la : Int} {H : Hp} {Q : VK} {E : XK} (pl : PlAt PC C H p es) (fl : FlAt FC KC H f ks cl) (li : LaIs ks so la) (l1 : 1 ≤ la) (sp : SpOk es la) (hn : n < es.length) (mo : MsOk (mos es))
    (k : ∀ H', Same H H' → Q (.int (lastR (mos es) n la m)) H') : spLsr PC C FC KC [.ref p, .ref f, K26F.sV so, .int (n : Nat), .int m] H Q E := by
  unfold spLsr
  exact ⟨p, f, es, ks, cl, so, n, m, la, rfl, pl, fl, li, l1, sp, hn, mo, k⟩
section
variable {P : Program} {w : World} {K : PySem.W.Frag} {mg : Str → Option Value} {base : Heap} {C PC CU CE RC FC KC : Addr}
theorem sc_last_reading : FnScope ["plan", "fleet", "source", "number", "moment", "lateness", "last"] ["plan", "fleet", "source", "number", "moment"] (defScope s_last_reading) := ⟨rfl, rfl, rfl, by decide +kernel, rfl, by decide +kernel, by decide +kernel⟩
theorem ok_lsr (D : DefK K mg "_last_reading" s_last_reading) (PT : PTx K mg PC) (TF : K26F.FTx K mg FC) (RT : K26R.Txt K mg RC) (M_late : Met P w K mg base (L2.CX P w) 5 FC "lateness" (K26F.spLate K FC KC CU)) (M_mos : Met P w K mg base CX0 1 PC "moments" (spPMoms PC C)) (G_held_span : Cal P w K mg base CX0 6 "held_span" (spHSpan RC)) (P_last : Prp P w K mg base CX0 1 RC "last" (K26R.spLast RC)) : Cal P w K mg base CX0 8 "_last_reading" (spLsr PC C FC KC) := by
  refine D.cal sc_last_reading (fun _ _ _ _ _ _ us hl => match us, hl with | [_, _, _, _, _], _ => rfl) (fun vs H Q E h => ?_) fun f0 cdv A outer s H vs Q E hr h => ?_
  · unfold spLsr at h; obtain ⟨p, f, es, ks, cl, so, n, m, la, rfl, _⟩ := h; rfl
  · unfold spLsr at h; obtain ⟨p, f, es, ks, cl, so, n, m, la, rfl, pl, fl, li, l1, sp, hn, mo, k⟩ := h
    refine ⟨_, (C8.pss_cut (ps_set (i := 5) sc_last_reading.nd rfl (Or.inl rfl) (pe_ifExp (pt_cmpR op_isN (pv 2) pe_non (nomark _)) pe_int (pe_mS M_late TF.cl takes0 hr (by decide) (pv 1) (pa_cons (pv 2) pa_nil))))
      (C8.pss_cut (ps_set (i := 6) sc_last_reading.nd rfl (Or.inl rfl) (pe_p P_last RT.cl hr (by decide) (pe_c G_held_span hr (by decide) rfl (pa_cons (pe_mz M_mos PT.cl hr (by decide) (pv 0)) (pa_cons (pv 3) (pa_cons (pv 5) pa_nil))))))
      (pss_one (ps_ret (pe_ifExp (PW.pt (pw_or (pt_cmpR op_isN (pv 6) pe_non (nomark _)) (pw_or1 (pt_cmpR op_lt (pv 4) (pv 6) (nomark _))))) (pv 4) (pv 6)))))), ?_⟩
    obtain ⟨dxp, lp, ep, elp⟩ := id pl.ex
    obtain ⟨d, cc, fa⟩ := id fl.ex
    obtain ⟨dxf, ef⟩ := id fa.at_
    have mm : (es.map fun e => V.int e.m) = (mos es).map V.int := by unfold mos; rw [List.map_map]; rfl
    have lm : (mos es).length = es.length := by unfold mos; rw [List.length_map]
    refine ⟨fun σ' H' => σ' = [some (.ref p), some (.ref f), some (K26F.sV so), some (.int (n : Nat)), some (.int m), some (.int la), none] ∧ Same H H', ?_, ?_⟩
    · cases so with
      | none =>
        refine ⟨_, rfl, rfl, _, rfl, iteT ⟨?_, .refl _⟩⟩
        rw [show la = 1 from li]; rfl
      | some z =>
        refine ⟨_, rfl, rfl, _, rfl, iteF ?_⟩
        refine ⟨_, rfl, f, dxf, _, rfl, ef, K26F.get_fno _ _ (by decide +kernel) (by decide +kernel), _, rfl, f, d, cc, .str z, ks, _, rfl, fa, fl.wd, fl.fed, .inl ⟨z, rfl, li.1, fun H2 s2 => ⟨?_, s2⟩⟩⟩
        rw [li.2]; rfl
    rintro _ H1 ⟨rfl, s1⟩
    refine ⟨fun σ' H' => σ' = [some (.ref p), some (.ref f), some (K26F.sV so), some (.int (n : Nat)), some (.int m), some (.int la), some (K26F.oV (endO (mos es) la n))] ∧ Same H H', ?_, ?_⟩
    · refine ⟨_, rfl, p, dxp, _, rfl, s1 _ _ ep, get_eno _ (by decide +kernel), p, es, rfl, pl.same s1, fun l3 H3 n3 s3 e3 => ⟨_, rfl, _, rfl, l3, mos es, n, la, rfl, by rw [← mm]; exact e3, by rw [lm]; exact hn, sp, fun x H4 nx s4 rr => ?_⟩⟩
      obtain ⟨dx, ex⟩ := id rr
      refine ⟨x, dx, _, rfl, ex, x, _, rfl, rr, ?_⟩
      rw [last_span mo l1 (by rw [lm]; exact hn) sp]
      exact ⟨rfl, s1.trans (s3.trans s4)⟩
    rintro _ H2 ⟨rfl, s2⟩
    have q := k H2 s2
    unfold lastR at q
    cases c : endO (mos es) la n with
    | none =>
      rw [c] at q
      exact ⟨_, rfl, rfl, _, rfl, iteT ⟨_, rfl, q⟩⟩
    | some e =>
      rw [c] at q
      refine ⟨_, rfl, rfl, _, rfl, iteF ⟨_, rfl, _, rfl, _, _, rfl, rfl, _, rfl, ?_⟩⟩
      by_cases d : m < e
      · refine iteTe (decide_eq_true d) ⟨_, rfl, ?_⟩
        have q : Q (.int (if m < e then m else e)) H2 := q
        rw [if_pos d] at q; exact q
      · refine iteFe (decide_eq_false d) ⟨_, rfl, ?_⟩
        have q : Q (.int (if m < e then m else e)) H2 := q
        rw [if_neg d] at q; exact q
end
end K26
namespace K26
open PySem PySem.Spec PyProof.Rows L2 Jg
local macro_rules | `(tactic| walk_at "rd1") => `(tactic| (first
  | refine ⟨_, rfl, ?_⟩
  | refine ⟨_, _, rfl, rfl, ?_⟩
  | refine ⟨_, _, rfl, ?_⟩
  | refine ⟨rfl, ?_⟩
  | (refine ⟨show (0 : Int) < _ by omega, ?_⟩)
  | (refine ⟨Or.inl ⟨by omega, by omega⟩, ?_⟩)
  | (refine ⟨Or.inr ⟨by omega, by omega⟩, ?_⟩)
  | (refine ⟨(⟨by decide, by decide, by decide⟩ : CPow _ _), ?_⟩)
  | refine Or.inl ⟨_, rfl, ?_⟩
  | refine Or.inr ⟨_, rfl, ?_⟩
  | fail "rd"))
local macro_rules | `(tactic| walk_at "rd") => `(tactic| repeat' walk_at "rd1")
/-- a machine stays when a list changes -/
theorem MacAt.off {H : Hp} {m : Mac} {l : Addr} {xs : List V} {o : HO} (h : MacAt H m) (e : H l = some (.lst xs)) : MacAt (upd H l o) m := by
  obtain ⟨ov, lp, a, b, c⟩ := h.ex
  have k : ∀ {q : Addr} {ys : List V}, H q = some (.tup ys) → upd H l o q = some (.tup ys) := fun {q ys} z => by
    rw [upd_ne fun w => by rw [w, e] at z; cases z]; exact z
  refine ⟨ov, lp, k a, ?_, k c⟩
  cases ho : m.o with
  | non => rw [ho] at b; exact b
  | «at» n => rw [ho] at b; exact b
  | cp n c => rw [ho] at b; exact let ⟨q, e, h⟩ := b; ⟨q, e, k h⟩
def ageO (r : K26F.Kd) : Int := r.a.getD 0
def orgS (so : Option Str) (e : Nat) : Org := match so with
  | none => .non
  | some _ => .at ((e : Int) - 1)
/-- a machine of a kind that reads, and its copy where that is needed -/
def ownL (z : Str) (r : K26F.Kd) (rd m : Int) (e : Nat) : List MW :=
  (z, rd, orgS r.s e) :: (if rd + r.g - 1 < m then [(z, (if m < rd + r.g - 1 + ageO r then m else rd + r.g - 1 + ageO r), .cp e (rd + r.g - 1))] else [])
def hmL (kr : List KRow) (ms : List Int) (n : Nat) : Nat → Option Str → Int → Nat → List MW
  | 0, _, _, _ => []
  | _ + 1, none, _, _ => []
  | fu + 1, some z, m, s => match kr.find? (fun k => decide (k.z = z)) with
    | none => []
    | some k => hmL kr ms n fu k.r.s (lastR ms n (lateZ kr 5 k.r.s) m) s ++ ownL k.z k.r (lastR ms n (lateZ kr 5 k.r.s) m) m (s + (hmL kr ms n fu k.r.s (lastR ms n (lateZ kr 5 k.r.s) m) s).length)
theorem hmL_none {kr : List KRow} {ms : List Int} {n : Nat} {m : Int} {s : Nat} : ∀ fu, hmL kr ms n fu none m s = []
  | 0 => rfl
  | _ + 1 => rfl
theorem hmL_at {kr : List KRow} {ms : List Int} {n fu : Nat} {m : Int} {s i : Nat} {k : KRow} (ok : KrOk kr) (hk : kr[i]? = some k) : hmL kr ms n (fu + 1) (some k.z) m s = hmL kr ms n fu k.r.s (lastR ms n (lateZ kr 5 k.r.s) m) s ++ ownL k.z k.r (lastR ms n (lateZ kr 5 k.r.s) m) m (s + (hmL kr ms n fu k.r.s (lastR ms n (lateZ kr 5 k.r.s) m) s).length) := by
  show (match kr.find? (fun q : KRow => decide (q.z = k.z)) with | none => [] | some k => _) = _
  rw [kr_find ok.nd hk]
theorem own_len {z : Str} {r : K26F.Kd} {rd m : Int} {e : Nat} : (ownL z r rd m e).length ≤ 2 := by
  unfold ownL
  split
  · exact Nat.le_refl 2
  · show 1 ≤ 2; decide
theorem hmL_len {kr : List KRow} {ms : List Int} {n : Nat} : ∀ (fu : Nat) (so : Option Str) (m : Int) (s : Nat), (hmL kr ms n fu so m s).length ≤ 2 * fu
  | 0, _, _, _ => Nat.zero_le _
  | fu + 1, none, _, _ => Nat.zero_le _
  | fu + 1, some z, m, s => by
    show (match kr.find? (fun q : KRow => decide (q.z = z)) with | none => [] | some k => hmL kr ms n fu k.r.s (lastR ms n (lateZ kr 5 k.r.s) m) s ++ ownL k.z k.r (lastR ms n (lateZ kr 5 k.r.s) m) m (s + (hmL kr ms n fu k.r.s (lastR ms n (lateZ kr 5 k.r.s) m) s).length)).length ≤ _
    cases kr.find? (fun q : KRow => decide (q.z = z)) with
    | none => exact Nat.zero_le _
    | some k =>
      show (hmL kr ms n fu k.r.s (lastR ms n (lateZ kr 5 k.r.s) m) s ++ ownL k.z k.r (lastR ms n (lateZ kr 5 k.r.s) m) m (s + (hmL kr ms n fu k.r.s (lastR ms n (lateZ kr 5 k.r.s) m) s).length)).length ≤ _
      rw [List.length_append]
      have a := hmL_len (kr := kr) (ms := ms) (n := n) fu k.r.s (lastR ms n (lateZ kr 5 k.r.s) m) s
      have b := own_len (z := k.z) (r := k.r) (rd := lastR ms n (lateZ kr 5 k.r.s) m) (m := m) (e := s + (hmL kr ms n fu k.r.s (lastR ms n (lateZ kr 5 k.r.s) m) s).length)
      omega
/-- more turns change nothing -/
theorem lateZ_more {kr : List KRow} (ok : KrOk kr) : ∀ (fu : Nat) (o : Option Str), (∀ z, o = some z → ∃ (i : Nat) (k : KRow), kr[i]? = some k ∧ k.z = z ∧ i < fu) → lateZ kr fu o = lateZ kr (fu + 1) o
  | fu, none, _ => by rw [lateZ_none, lateZ_none]
  | 0, some z, h => by
    obtain ⟨i, k, _, _, l⟩ := h z rfl
    exact absurd l (Nat.not_lt_zero _)
  | fu + 1, some z, h => by
    obtain ⟨i, k, hk, ez, l⟩ := h z rfl
    subst ez
    have e : ∀ f, lateZ kr (f + 1) (some k.z) = lateZ kr f k.r.s + K26F.addK k.r := fun f => by
      show (match kr.find? (fun q : KRow => decide (q.z = k.z)) with | none => 1 | some q => lateZ kr f q.r.s + K26F.addK q.r) = _
      rw [kr_find ok.nd hk]
    rw [e, e, lateZ_more ok fu k.r.s fun y ey => ?_]
    obtain ⟨j, k', lt, h', q⟩ := take_at (g := KRow.z) (ok.s i k y hk ey)
    exact ⟨j, k', h', q, by omega⟩
theorem late5 {kr : List KRow} (ok : KrOk kr) {i : Nat} {k : KRow} (hk : kr[i]? = some k) (i4 : i ≤ 4) : lateZ kr 5 (some k.z) = lateZ kr 5 k.r.s + K26F.addK k.r := by
  have e : lateZ kr 5 (some k.z) = lateZ kr 4 k.r.s + K26F.addK k.r := by
    show (match kr.find? (fun q : KRow => decide (q.z = k.z)) with | none => 1 | some q => lateZ kr 4 q.r.s + K26F.addK q.r) = _
    rw [kr_find ok.nd hk]
  rw [e, lateZ_more ok 4 k.r.s fun y ey => ?_]
  obtain ⟨j, k', lt, h', q⟩ := take_at (g := KRow.z) (ok.s i k y hk ey)
  exact ⟨j, k', h', q, by omega⟩
/-- where a copy is needed, the kind copies, and soon enough -/
theorem copy_in {kr : List KRow} {ms : List Int} {n i : Nat} {m : Int} {k : KRow} (ok : KrOk kr) (hk : kr[i]? = some k) (i4 : i ≤ 4) (h : InHd ms n (lateZ kr 5 (some k.z)) m) (lt : lastR ms n (lateZ kr 5 k.r.s) m + k.r.g - 1 < m) : ∃ a, k.r.a = some a ∧ 0 ≤ a ∧ m ≤ lastR ms n (lateZ kr 5 k.r.s) m + k.r.g - 1 + a + (k.r.g - 1) := by
  have g1 := (ok.g k (List.mem_of_getElem? hk)).1
  have h2 := h.2
  rw [late5 ok hk i4] at h2
  unfold lastR at lt ⊢
  unfold endO at lt h2 ⊢
  by_cases c : n + 1 = ms.length
  · rw [if_pos c] at lt
    have lt : m + k.r.g - 1 < m := lt
    omega
  · rw [if_neg c] at lt ⊢
    have u := h2 _ (if_neg c)
    have lt : (if m < ms.getD (n + 1) 0 + (lateZ kr 5 k.r.s - 2) then m else ms.getD (n + 1) 0 + (lateZ kr 5 k.r.s - 2)) + k.r.g - 1 < m := lt
    show ∃ a, k.r.a = some a ∧ 0 ≤ a ∧ m ≤ (if m < ms.getD (n + 1) 0 + (lateZ kr 5 k.r.s - 2) then m else ms.getD (n + 1) 0 + (lateZ kr 5 k.r.s - 2)) + k.r.g - 1 + a + (k.r.g - 1)
    by_cases d : m < ms.getD (n + 1) 0 + (lateZ kr 5 k.r.s - 2)
    · rw [if_pos d] at lt; omega
    · rw [if_neg d] at lt ⊢
      unfold K26F.addK at u
      cases ca : k.r.a with
      | none =>
        rw [ca] at u
        have u : m ≤ ms.getD (n + 1) 0 + (lateZ kr 5 k.r.s + (k.r.g - 1) - 2) := u
        omega
      | some a =>
        rw [ca] at u
        have u : m ≤ ms.getD (n + 1) 0 + (lateZ kr 5 k.r.s + (2 * k.r.g + a - 2) - 2) := u
        exact ⟨a, rfl, (ok.a k (List.mem_of_getElem? hk) a ca).1, by omega⟩
end K26
namespace K26
open PySem PySem.Spec PyProof.Rows L2 Jg
local macro_rules | `(tactic| walk_at "rd1") => `(tactic| (first
  | refine ⟨_, rfl, ?_⟩
  | refine ⟨_, _, rfl, rfl, ?_⟩
  | refine ⟨_, _, rfl, ?_⟩
  | refine ⟨rfl, ?_⟩
  | (refine ⟨show (0 : Int) < _ by omega, ?_⟩)
  | (refine ⟨Or.inl ⟨by omega, by omega⟩, ?_⟩)
  | (refine ⟨Or.inr ⟨by omega, by omega⟩, ?_⟩)
  | (refine ⟨(⟨by decide, by decide, by decide⟩ : CPow _ _), ?_⟩)
  | refine Or.inl ⟨_, rfl, ?_⟩
  | refine Or.inr ⟨_, rfl, ?_⟩
  | fail "rd"))
local macro_rules | `(tactic| walk_at "rd") => `(tactic| repeat' walk_at "rd1")
def srcV (so : Option Str) (e : Nat) : V := match so with
  | none => .non
  | some _ => .int ((e : Int) - 1)
theorem srcV_is {H : Hp} {so : Option Str} {e : Nat} : OrgV H (orgS so e) (srcV so e) := by
  cases so with
  | none => rfl
  | some y => rfl
theorem kat_off {KC x l : Addr} {H : Hp} {r : K26F.Kd} {xs : List V} {o : HO} (h : K26F.KAt KC H x r) (e : H l = some (.lst xs)) : K26F.KAt KC (upd H l o) x r := by
  obtain ⟨dx, ex⟩ := h
  exact ⟨dx, by rw [upd_ne fun z => by rw [z, e] at ex; cases ex]; exact ex⟩
def spSrcN (K : PySem.W.Frag) : Sp := fun vs H Q _ => ∃ (so : Option Str) (l : Addr) (xs : List V) (s : Nat), vs = [K26F.sV so, .ref l, .int (s : Nat)] ∧ H l = some (.lst xs) ∧ Q (srcV so (s + xs.length)) H
@[irreducible] def spHold (PC C FC KC : Addr) (fu : Nat) : Sp := fun vs H Q _ => ∃ (p f : Addr) (es : List Ed) (ks : K26F.Ks) (cl : List Cl) (kr : List KRow) (i n s : Nat) (k : KRow) (m : Int), vs = [.ref p, .ref f, .str k.z, .int (n : Nat), .int m, .int (s : Nat)] ∧ HoF PC C FC KC p f es ks cl kr n H ∧ kr[i]? = some k ∧ i < fu ∧ fu ≤ 5 ∧ InHd (mos es) n (lateZ kr 5 (some k.z)) m ∧
  ∀ (l : Addr) (mcs : List Mac) (H' : Hp), H l = none → Same H H' → H' l = some (.lst (mcs.map Mac.v)) → (∀ q ∈ mcs, MacAt H' q) → mcs.map Mac.w = hmL kr (mos es) n fu (some k.z) m s → Q (.ref l) H'
@[irreducible] def spSrc (PC C FC KC : Addr) (fu : Nat) : Sp := fun vs H Q _ => ∃ (p f : Addr) (es : List Ed) (ks : K26F.Ks) (cl : List Cl) (kr : List KRow) (n s : Nat) (so : Option Str) (m : Int), vs = [.ref p, .ref f, K26F.sV so, .int (n : Nat), .int m, .int (s : Nat)] ∧ HoF PC C FC KC p f es ks cl kr n H ∧ (∀ z, so = some z → ∃ (i : Nat) (k : KRow), kr[i]? = some k ∧ k.z = z ∧ i < fu) ∧ fu ≤ 5 ∧ InHd (mos es) n (lateZ kr 5 so) m ∧
  ∀ (l : Addr) (mcs : List Mac) (H' : Hp), H l = none → Same H H' → H' l = some (.lst (mcs.map Mac.v)) → (∀ q ∈ mcs, MacAt H' q) → mcs.map Mac.w = hmL kr (mos es) n fu so m s → Q (.ref l) H'
theorem use_hold {PC C FC KC p f : Addr} {fu : Nat} {es : List Ed} {ks : K26F.Ks} {cl : List Cl} {kr : List KRow} {i n s : Nat} {k : KRow} {m : Int} {H : Hp} {Q : VK} {E : XK} (hf : HoF PC C FC KC p f es ks cl kr n H) (hk : kr[i]? = some k) (hi : i < fu) (f5 : fu ≤ 5) (ih : InHd (mos es) n (lateZ kr 5 (some k.z)) m)
    (q : ∀ (l : Addr) (mcs : List Mac) (H' : Hp), H l = none → Same H H' → H' l = some (.lst (mcs.map Mac.v)) → (∀ q ∈ mcs, MacAt H' q) → mcs.map Mac.w = hmL kr (mos es) n fu (some k.z) m s → Q (.ref l) H') : spHold PC C FC KC fu [.ref p, .ref f, .str k.z, .int (n : Nat), .int m, .int (s : Nat)] H Q E := by
  unfold spHold
  exact ⟨p, f, es, ks, cl, kr, i, n, s, k, m, rfl, hf, hk, hi, f5, ih, q⟩
theorem use_src {PC C FC KC p f : Addr} {fu : Nat} {es : List Ed} {ks : K26F.Ks} {cl : List Cl} {kr : List KRow} {n s : Nat} {so : Option Str} {m : Int} {H : Hp} {Q : VK} {E : XK} (hf : HoF PC C FC KC p f es ks cl kr n H) (hs : ∀ z, so = some z → ∃ (i : Nat) (k : KRow), kr[i]? = some k ∧ k.z = z ∧ i < fu) (f5 : fu ≤ 5) (ih : InHd (mos es) n (lateZ kr 5 so) m)
    (q : ∀ (l : Addr) (mcs : List Mac) (H' : Hp), H l = none → Same H H' → H' l = some (.lst (mcs.map Mac.v)) → (∀ q ∈ mcs, MacAt H' q) → mcs.map Mac.w = hmL kr (mos es) n fu so m s → Q (.ref l) H') : spSrc PC C FC KC fu [.ref p, .ref f, K26F.sV so, .int (n : Nat), .int m, .int (s : Nat)] H Q E := by
  unfold spSrc
  exact ⟨p, f, es, ks, cl, kr, n, s, so, m, rfl, hf, hs, f5, ih, q⟩
section
variable {P : Program} {w : World} {K : PySem.W.Frag} {mg : Str → Option Value} {base : Heap} {C PC CU CE RC FC KC : Addr}
theorem sc_source_number : FnScope ["source", "machines", "start"] ["source", "machines", "start"] (defScope s_source_number) := ⟨rfl, rfl, rfl, by decide +kernel, rfl, by decide +kernel, by decide +kernel⟩
theorem ok_srcn (D : DefK K mg "source_number" s_source_number) (T : TxP K mg) : Cal P w K mg base CX0 1 "source_number" (spSrcN K) := by
  refine D.cal sc_source_number (fun _ _ _ _ _ _ us hl => match us, hl with | [_, _, _], _ => rfl) (fun vs H Q E h => ?_) fun f cdv A outer s H vs Q E hr h => ?_
  · obtain ⟨so, l, xs, s, rfl, _⟩ := h; rfl
  · obtain ⟨so, l, xs, s, rfl, el, k⟩ := h
    refine ⟨_, (pss_one (ps_ret (pe_ifExp (pt_cmpR op_isN (pv 0) pe_non (nomark _)) pe_non (pe_op op_sub (pe_op op_add (pv 2) (pe_callB call_len_seq (by rfl) T.b_len (by decide +kernel) (pa_cons (pv 1) pa_nil))) pe_int)))), ?_⟩
    cases so with
    | none => exact ⟨_, rfl, rfl, _, rfl, iteT k⟩
    | some y =>
      refine ⟨_, rfl, rfl, _, rfl, iteF ⟨_, rfl, _, rfl, l, _, rfl, .inl (SqL.of el), _, _, rfl, rfl, _, _, rfl, rfl, ?_⟩⟩
      have e : ((s : Nat) : Int) + (xs.length : Int) - 1 = ((s + xs.length : Nat) : Int) - 1 := by omega
      show Q (V.int (((s : Nat) : Int) + (xs.length : Int) - 1)) H
      rw [e]; exact k
theorem sc_source_machines : FnScope ["plan", "fleet", "source", "number", "moment", "start"] ["plan", "fleet", "source", "number", "moment", "start"] (defScope s_source_machines) := ⟨rfl, rfl, rfl, by decide +kernel, rfl, by decide +kernel, by decide +kernel⟩
theorem ok_src {fu : Nat} (D : DefK K mg "source_machines" s_source_machines) (G_holding_machines : Cal P w K mg base CX0 (2 * fu + 12) "holding_machines" (spHold PC C FC KC fu)) : Cal P w K mg base CX0 (2 * fu + 13) "source_machines" (spSrc PC C FC KC fu) := by
  refine D.cal sc_source_machines (fun _ _ _ _ _ _ us hl => match us, hl with | [_, _, _, _, _, _], _ => rfl) (fun vs H Q E h => ?_) fun f0 cdv A outer s0 H vs Q E hr h => ?_
  · unfold spSrc at h; obtain ⟨p, f, es, ks, cl, kr, n, s, so, m, rfl, _⟩ := h; rfl
  · unfold spSrc at h; obtain ⟨p, f, es, ks, cl, kr, n, s, so, m, rfl, hf, hs, f5, ih, q⟩ := h
    refine ⟨_, (pss_cons (ps_if (pt_cmpR op_isN (pv 2) pe_non (nomark _)) (pss_one (ps_ret (pe_lst pa_nil))) pss_nil)
      (pss_one (ps_ret (pe_c G_holding_machines hr (by omega) rfl (pa_cons (pv 0) (pa_cons (pv 1) (pa_cons (pv 2) (pa_cons (pv 3) (pa_cons (pv 4) (pa_cons (pv 5) pa_nil)))))))))), ?_⟩
    cases so with
    | none =>
      refine ⟨_, rfl, rfl, _, rfl, iteT ⟨by show 0 ≤ sizeLine; decide, fun l nl => ?_⟩⟩
      exact q l [] _ nl (same_new nl) upd_same (fun _ h => nomatch h) (hmL_none fu).symm
    | some z =>
      obtain ⟨i, k, hk, ez, hi⟩ := hs z rfl
      subst ez
      refine ⟨_, rfl, rfl, _, rfl, iteF ?_⟩
      exact ⟨_, rfl, _, rfl, _, rfl, _, rfl, _, rfl, _, rfl, use_hold hf hk hi f5 ih q⟩
theorem sc_holding_machines : FnScope ["plan", "fleet", "name", "number", "moment", "start", "kind", "read", "machines", "copied", "begun"] ["plan", "fleet", "name", "number", "moment", "start"] (defScope s_holding_machines) := ⟨rfl, rfl, rfl, by decide +kernel, rfl, by decide +kernel, by decide +kernel⟩
theorem ok_hold0 (D : DefK K mg "holding_machines" s_holding_machines) : Cal P w K mg base CX0 12 "holding_machines" (spHold PC C FC KC 0) := by
  refine D.cal sc_holding_machines (fun _ _ _ _ _ _ us hl => match us, hl with | [_, _, _, _, _, _], _ => rfl) (fun vs H Q E h => ?_) fun f0 cdv A outer s0 H vs Q E hr h => ?_
  · unfold spHold at h; obtain ⟨p, f, es, ks, cl, kr, i, n, s, k, m, rfl, _⟩ := h; rfl
  · unfold spHold at h; obtain ⟨p, f, es, ks, cl, kr, i, n, s, k, m, rfl, _, _, hi, _⟩ := h
    exact absurd hi (Nat.not_lt_zero _)
theorem ok_hold {fu : Nat} (D : DefK K mg "holding_machines" s_holding_machines) (T : TxP K mg) (TK : K26F.Txt K mg KC) (TF : K26F.FTx K mg FC) (M_getF : Met P w K mg base (L2.CX P w) 8 FC "__getitem__" (K26F.spGet K FC KC CU)) (P_gap : Prp P w K mg base CX0 1 KC "gap" (K26F.spPrp KC fun r => .int r.g)) (P_age : Prp P w K mg base CX0 1 KC "age" (K26F.spPrp KC fun r => K26F.oV r.a)) (P_source : Prp P w K mg base CX0 1 KC "source" (K26F.spPrp KC fun r => K26F.sV r.s))
    (G_last_reading : Cal P w K mg base CX0 8 "_last_reading" (spLsr PC C FC KC)) (G_source_number : Cal P w K mg base CX0 1 "source_number" (spSrcN K)) (G_source_machines : Cal P w K mg base CX0 (2 * fu + 13) "source_machines" (spSrc PC C FC KC fu)) : Cal P w K mg base CX0 (2 * (fu + 1) + 12) "holding_machines" (spHold PC C FC KC (fu + 1)) := by
  refine D.cal sc_holding_machines (fun _ _ _ _ _ _ us hl => match us, hl with | [_, _, _, _, _, _], _ => rfl) (fun vs H Q E h => ?_) fun f0 cdv A outer s0 H vs Q E hr h => ?_
  · unfold spHold at h; obtain ⟨p, f, es, ks, cl, kr, i, n, s, k, m, rfl, _⟩ := h; rfl
  · unfold spHold at h; obtain ⟨p, f, es, ks, cl, kr, i, n, s, k, m, rfl, hf, hk, hi, f5, ih, q⟩ := h
    refine ⟨_, (C8.pss_cut (ps_set (i := 6) sc_holding_machines.nd rfl (Or.inl rfl) (pe_ixO M_getF TF.fn takes0 hr (by omega) (pv 1) (pv 2) (fun _ _ => rfl)))
      (C8.pss_cut (ps_set (i := 7) sc_holding_machines.nd rfl (Or.inl rfl) (pe_c G_last_reading hr (by omega) rfl (pa_cons (pv 0) (pa_cons (pv 1) (pa_cons (pe_p P_source TK.cl hr (by omega) (pv 6)) (pa_cons (pv 3) (pa_cons (pv 4) pa_nil)))))))
      (C8.pss_cut (ps_set (i := 8) sc_holding_machines.nd rfl (Or.inl rfl) (pe_c G_source_machines hr (by omega) rfl (pa_cons (pv 0) (pa_cons (pv 1) (pa_cons (pe_p P_source TK.cl hr (by omega) (pv 6)) (pa_cons (pv 3) (pa_cons (pv 7) (pa_cons (pv 5) pa_nil))))))))
      (C8.pss_cut (ps_expr (pe_bm F.plainAttrs_list F.slot_list_append F.type_list_append mt_append (pv 8) (pa_cons (pe_tup (pa_cons (pv 2) (pa_cons (pv 7) (pa_cons (pe_c G_source_number hr (by omega) rfl (pa_cons (pe_p P_source TK.cl hr (by omega) (pv 6)) (pa_cons (pv 8) (pa_cons (pv 5) pa_nil)))) (pa_cons (pe_tup pa_nil) pa_nil))))) pa_nil)))
      (C8.pss_cut (ps_set (i := 9) sc_holding_machines.nd rfl (Or.inl rfl) (pe_op op_sub (pe_op op_add (pv 7) (pe_p P_gap TK.cl hr (by omega) (pv 6))) pe_int))
      (C8.pss_cut (ps_if (pt_cmpR op_gt (pv 4) (pv 9) (nomark _)) (pss_cons (ps_set (i := 10) sc_holding_machines.nd rfl (Or.inl rfl) (pe_ifExp (pt_cmpR op_lt (pv 4) (pe_op op_add (pv 9) (pe_p P_age TK.cl hr (by omega) (pv 6))) (nomark _)) (pv 4) (pe_op op_add (pv 9) (pe_p P_age TK.cl hr (by omega) (pv 6)))))
      (pss_one (ps_expr (pe_bm F.plainAttrs_list F.slot_list_append F.type_list_append mt_append (pv 8) (pa_cons (pe_tup (pa_cons (pv 2) (pa_cons (pv 10) (pa_cons (pe_tup (pa_cons (pe_op op_sub (pe_op op_add (pv 5) (pe_callB call_len_seq (by rfl) T.b_len (by decide +kernel) (pa_cons (pv 8) pa_nil))) pe_int) (pa_cons (pv 9) pa_nil))) (pa_cons (pe_tup pa_nil) pa_nil))))) pa_nil))))) pss_nil)
      (pss_one (ps_ret (pv 8))))))))), ?_⟩
    obtain ⟨dxp, lp, ep, elp⟩ := id hf.pl.ex
    obtain ⟨d, cc, fa⟩ := id hf.fl.ex
    obtain ⟨dxf, ef⟩ := id fa.at_
    obtain ⟨x0, kx⟩ := hf.al.at_ hk
    have ok := hf.al.ok
    have kl := (List.getElem?_eq_some_iff.mp hk).1
    have k4 := hf.k4
    have lm : (mos es).length = es.length := by unfold mos; rw [List.length_map]
    refine ⟨fun σ' H' => ∃ x, σ' = [some (.ref p), some (.ref f), some (.str k.z), some (.int (n : Nat)), some (.int m), some (.int (s : Nat)), some (.ref x), none, none, none, none] ∧ K26F.KAt KC H' x k.r ∧ Same H H', ?_, ?_⟩
    · refine ⟨_, rfl, _, rfl, f, dxf, _, rfl, ef, ?_⟩
      exact ⟨f, d, cc, .str k.z, ks, _, rfl, fa, hf.fl.wd, .inl ⟨k.z, _, rfl, kx, fun x H2 nx s2 ka => ⟨x, rfl, ka, s2⟩⟩⟩
    rintro _ H1 ⟨x, rfl, ka, s1⟩
    obtain ⟨dxk, exk⟩ := id ka
    have li := hf.la hk
    have l1 : 1 ≤ lateZ kr 5 k.r.s := (lateZ_b ok 5 k.r.s).1
    obtain ⟨rd, erd⟩ : ∃ rd, rd = lastR (mos es) n (lateZ kr 5 k.r.s) m := ⟨_, rfl⟩
    obtain ⟨ird, rdm⟩ := lastR_in hf.mo l1 (by rw [lm]; exact hf.hn) ih.1
    rw [← erd] at ird rdm
    refine ⟨fun σ' H' => σ' = [some (.ref p), some (.ref f), some (.str k.z), some (.int (n : Nat)), some (.int m), some (.int (s : Nat)), some (.ref x), some (.int rd), none, none, none] ∧ Same H1 H', ?_, ?_⟩
    · refine ⟨_, rfl, _, rfl, _, rfl, x, dxk, _, rfl, exk, x, k.r, rfl, ka, _, rfl, _, rfl, use_lsr (hf.pl.same s1) (hf.fl.same s1) li l1 (hf.sp _) hf.hn hf.mo fun H2 s2 => ?_⟩
      rw [← erd]; exact ⟨rfl, s2⟩
    rintro _ H2 ⟨rfl, s12⟩
    have s2 := s1.trans s12
    have exk2 := s12 _ _ exk
    refine ⟨fun σ' H' => ∃ (l : Addr) (el : List Mac), σ' = [some (.ref p), some (.ref f), some (.str k.z), some (.int (n : Nat)), some (.int m), some (.int (s : Nat)), some (.ref x), some (.int rd), some (.ref l), none, none] ∧ H l = none ∧ Same H H' ∧ K26F.KAt KC H' x k.r ∧ H' l = some (.lst (el.map Mac.v)) ∧ (∀ q ∈ el, MacAt H' q) ∧ el.map Mac.w = hmL kr (mos es) n fu k.r.s rd s, ?_, ?_⟩
    · refine ⟨_, rfl, _, rfl, _, rfl, x, dxk, _, rfl, exk2, x, k.r, rfl, ⟨dxk, exk2⟩, _, rfl, _, rfl, _, rfl, use_src (hf.same s2) (fun y ey => ?_) (by omega) ird fun l el H3 nl s3 e3 a3 w3 => ?_⟩
      · obtain ⟨j, k', lt, h', q'⟩ := take_at (g := KRow.z) (ok.s i k y hk ey)
        exact ⟨j, k', h', q', by omega⟩
      · exact ⟨l, el, rfl, s2.free nl, s2.trans s3, ⟨dxk, s3 _ _ exk2⟩, e3, a3, w3⟩
    rintro _ H3 ⟨l, el, rfl, nl, s3, ka3, e3, a3, w3⟩
    have eN : (hmL kr (mos es) n fu k.r.s rd s).length = el.length := by rw [← w3, List.length_map]
    have eB : el.length ≤ 10 := by
      rw [← eN]
      exact Nat.le_trans (hmL_len fu _ _ _) (by omega)
    have hL : hmL kr (mos es) n (fu + 1) (some k.z) m s = el.map Mac.w ++ ownL k.z k.r rd m (s + el.length) := by
      rw [hmL_at ok hk, ← erd, w3, eN]
    rw [hL] at q
    clear s1 s12 s2 ka exk exk2
    clear H1 H2
    obtain ⟨dxk3, exk3⟩ := id ka3
    refine ⟨fun σ' H' => ∃ (o : Mac), σ' = [some (.ref p), some (.ref f), some (.str k.z), some (.int (n : Nat)), some (.int m), some (.int (s : Nat)), some (.ref x), some (.int rd), some (.ref l), none, none] ∧ Same H H' ∧ K26F.KAt KC H' x k.r ∧ H' l = some (.lst ((el ++ [o]).map Mac.v)) ∧ (∀ q ∈ el ++ [o], MacAt H' q) ∧ o.w = (k.z, rd, orgS k.r.s (s + el.length)), ?_, ?_⟩
    · refine ⟨_, rfl, .inl ⟨rfl, _, .inl (.inl e3)⟩, ?_⟩
      refine ⟨_, rfl, _, rfl, _, rfl, x, dxk3, _, rfl, exk3, x, k.r, rfl, ka3, _, rfl, _, rfl, k.r.s, l, _, s, rfl, e3, ?_⟩
      refine ⟨by show 0 ≤ sizeLine; decide, fun lp nlp => ⟨by show 4 ≤ sizeLine; decide, fun t nt => ?_⟩⟩
      rw [List.length_map]
      have g1 := same_new (o := .tup []) nlp
      have g2 := same_new (o := .tup [.str k.z, .int rd, srcV k.r.s (s + el.length), .ref lp]) nt
      have e5 := g2 _ _ (g1 _ _ e3)
      have elp5 := g2 _ _ (show upd H3 lp (.tup []) lp = some (.tup []) from upd_same)
      have et5 : upd (upd H3 lp (.tup [])) t (.tup [.str k.z, .int rd, srcV k.r.s (s + el.length), .ref lp]) t = some (.tup [.str k.z, .int rd, srcV k.r.s (s + el.length), .ref lp]) := upd_same
      have s35 := g1.trans g2
      generalize upd (upd H3 lp (.tup [])) t (.tup [.str k.z, .int rd, srcV k.r.s (s + el.length), .ref lp]) = H5 at *
      refine ⟨l, _, _, rfl, rfl, e5, by rw [List.length_map, sizeLine_eq]; omega, ?_⟩
      refine ⟨⟨t, k.z, rd, orgS k.r.s (s + el.length)⟩, rfl, same_mut (s3.trans s35) nl, kat_off ⟨dxk3, s35 _ _ exk3⟩ e5, by rw [upd_same, List.map_append]; rfl, fun q' hq => ?_, rfl⟩
      rcases List.mem_append.mp hq with hq | hq
      · exact ((a3 q' hq).same s35).off e5
      · rw [List.mem_singleton.mp hq]
        exact MacAt.off ⟨_, lp, et5, srcV_is, elp5⟩ e5
    rintro _ H4 ⟨o, rfl, s4, ka4, e4, a4, w4⟩
    obtain ⟨dxk4, exk4⟩ := id ka4
    refine ⟨fun σ' H' => σ' = [some (.ref p), some (.ref f), some (.str k.z), some (.int (n : Nat)), some (.int m), some (.int (s : Nat)), some (.ref x), some (.int rd), some (.ref l), some (.int (rd + k.r.g - 1)), none] ∧ H' = H4, ?_, ?_⟩
    · exact ⟨_, rfl, _, rfl, x, dxk4, _, rfl, exk4, x, k.r, rfl, ka4, _, _, rfl, rfl, _, _, rfl, rfl, rfl, rfl⟩
    rintro _ HX ⟨rfl, eHX⟩
    rw [eHX]
    clear eHX HX
    refine ⟨fun σ' H' => ∃ (v10 : Option V) (mcs : List Mac), σ' = [some (.ref p), some (.ref f), some (.str k.z), some (.int (n : Nat)), some (.int m), some (.int (s : Nat)), some (.ref x), some (.int rd), some (.ref l), some (.int (rd + k.r.g - 1)), v10] ∧ Same H H' ∧ H' l = some (.lst (mcs.map Mac.v)) ∧ (∀ q ∈ mcs, MacAt H' q) ∧ mcs.map Mac.w = el.map Mac.w ++ ownL k.z k.r rd m (s + el.length), ?_, ?_⟩
    · refine ⟨_, rfl, _, rfl, _, _, rfl, rfl, _, rfl, ?_⟩
      by_cases c : rd + k.r.g - 1 < m
      · obtain ⟨a, ea, a0, am⟩ := copy_in ok hk (by omega) ih (by rw [← erd]; exact c)
        have eo : ageO k.r = a := by unfold ageO; rw [ea]; rfl
        refine iteTe (decide_eq_true c) ?_
        refine ⟨_, rfl, _, rfl, _, rfl, x, dxk4, _, rfl, exk4, x, k.r, rfl, ka4, _, a, rfl, by show K26F.oV k.r.a = V.int a; rw [ea]; rfl, _, _, rfl, rfl, _, rfl, ?_⟩
        have en : ((s : Nat) : Int) + (((el ++ [o]).map Mac.v).length : Int) - 1 = ((s + el.length : Nat) : Int) := by rw [List.length_map, List.length_append, List.length_singleton]; omega
        have fin : ∀ (vv : V), vv = .int ((s + el.length : Nat) : Int) → ∀ (b : Int) (qo lp t : Addr), b = (if m < rd + k.r.g - 1 + ageO k.r then m else rd + k.r.g - 1 + ageO k.r) → H4 qo = none → upd H4 qo (.tup [vv, .int (rd + k.r.g - 1)]) lp = none → upd (upd H4 qo (.tup [vv, .int (rd + k.r.g - 1)])) lp (.tup []) t = none →
            rAppend (.ref l) [.ref t] (upd (upd (upd H4 qo (.tup [vv, .int (rd + k.r.g - 1)])) lp (.tup [])) t (.tup [.str k.z, .int b, .ref qo, .ref lp])) fun _ H' => ∃ (v10 : Option V) (mcs : List Mac), ([some (.ref p), some (.ref f), some (.str k.z), some (.int (n : Nat)), some (.int m), some (.int (s : Nat)), some (.ref x), some (.int rd), some (.ref l), some (.int (rd + k.r.g - 1)), some (.int b)] : L2.St) = [some (.ref p), some (.ref f), some (.str k.z), some (.int (n : Nat)), some (.int m), some (.int (s : Nat)), some (.ref x), some (.int rd), some (.ref l), some (.int (rd + k.r.g - 1)), v10] ∧ Same H H' ∧ H' l = some (.lst (mcs.map Mac.v)) ∧ (∀ q ∈ mcs, MacAt H' q) ∧ mcs.map Mac.w = el.map Mac.w ++ ownL k.z k.r rd m (s + el.length) := fun vv ev b qo lp t eb nqo nlp nt => by
          subst ev
          have g1 := same_new (o := .tup [.int ((s + el.length : Nat) : Int), .int (rd + k.r.g - 1)]) nqo
          have g2 := same_new (o := .tup []) nlp
          have g3 := same_new (o := .tup [.str k.z, .int b, .ref qo, .ref lp]) nt
          have g := g1.trans (g2.trans g3)
          have eq := g3 _ _ (g2 _ _ (show upd H4 qo (.tup [.int ((s + el.length : Nat) : Int), .int (rd + k.r.g - 1)]) qo = some (.tup [.int ((s + el.length : Nat) : Int), .int (rd + k.r.g - 1)]) from upd_same))
          have el_ := g3 _ _ (show upd (upd H4 qo (.tup [.int ((s + el.length : Nat) : Int), .int (rd + k.r.g - 1)])) lp (.tup []) lp = some (.tup []) from upd_same)
          have et : upd (upd (upd H4 qo (.tup [.int ((s + el.length : Nat) : Int), .int (rd + k.r.g - 1)])) lp (.tup [])) t (.tup [.str k.z, .int b, .ref qo, .ref lp]) t = some (.tup [.str k.z, .int b, .ref qo, .ref lp]) := upd_same
          generalize upd (upd (upd H4 qo (.tup [.int ((s + el.length : Nat) : Int), .int (rd + k.r.g - 1)])) lp (.tup [])) t (.tup [.str k.z, .int b, .ref qo, .ref lp]) = H5 at *
          have e5 := g _ _ e4
          refine ⟨l, _, _, rfl, rfl, e5, by rw [List.length_map, List.length_append, List.length_singleton, sizeLine_eq]; omega, ?_⟩
          refine ⟨_, (el ++ [o]) ++ [⟨t, k.z, b, .cp ((s + el.length : Nat) : Int) (rd + k.r.g - 1)⟩], rfl, same_mut (s4.trans g) nl, by rw [upd_same]; exact congrArg (fun z => some (HO.lst z)) (List.map_append (f := Mac.v) (l₁ := el ++ [o]) (l₂ := [⟨t, k.z, b, .cp ((s + el.length : Nat) : Int) (rd + k.r.g - 1)⟩])).symm, fun q' hq => ?_, ?_⟩
          · rcases List.mem_append.mp hq with hq | hq
            · exact ((a4 q' hq).same g).off e5
            · rw [List.mem_singleton.mp hq]
              exact MacAt.off ⟨.ref qo, lp, et, ⟨qo, rfl, eq⟩, el_⟩ e5
          · rw [List.map_append, List.map_append]
            unfold ownL
            rw [if_pos c, ← eb]
            show (el.map Mac.w ++ [o.w]) ++ [(k.z, b, Org.cp ((s + el.length : Nat) : Int) (rd + k.r.g - 1))] = _
            rw [w4, List.append_assoc]; rfl
        by_cases d : m < rd + k.r.g - 1 + a
        · refine iteTe (decide_eq_true d) ⟨_, rfl, ?_⟩
          refine ⟨_, rfl, .inl ⟨rfl, _, .inl (.inl e4)⟩, _, rfl, _, rfl, _, rfl, _, rfl, l, _, rfl, .inl (SqL.of e4), _, _, rfl, rfl, _, _, rfl, rfl, _, rfl, by show 2 ≤ sizeLine; decide, fun qo nqo => ⟨by show 0 ≤ sizeLine; decide, fun lp nlp => ⟨by show 4 ≤ sizeLine; decide, fun t nt => ?_⟩⟩⟩
          exact fin _ (congrArg V.int en) m qo lp t (by rw [eo, if_pos d]) nqo nlp nt
        · refine iteFe (decide_eq_false d) ⟨_, rfl, _, rfl, x, dxk4, _, rfl, exk4, x, k.r, rfl, ka4, _, a, rfl, by show K26F.oV k.r.a = V.int a; rw [ea]; rfl, ?_⟩
          refine ⟨_, rfl, .inl ⟨rfl, _, .inl (.inl e4)⟩, _, rfl, _, rfl, _, rfl, _, rfl, l, _, rfl, .inl (SqL.of e4), _, _, rfl, rfl, _, _, rfl, rfl, _, rfl, by show 2 ≤ sizeLine; decide, fun qo nqo => ⟨by show 0 ≤ sizeLine; decide, fun lp nlp => ⟨by show 4 ≤ sizeLine; decide, fun t nt => ?_⟩⟩⟩
          exact fin _ (congrArg V.int en) (rd + k.r.g - 1 + a) qo lp t (by rw [eo, if_neg d]) nqo nlp nt
      · refine iteFe (decide_eq_false c) ⟨_, el ++ [o], rfl, s4, e4, a4, ?_⟩
        rw [List.map_append]
        unfold ownL
        rw [if_neg c]
        show el.map Mac.w ++ [o.w] = _
        rw [w4]
    rintro _ H5 ⟨v10, mcs, rfl, s5, e5, a5, w5⟩
    exact ⟨_, rfl, q l mcs H5 nl s5 e5 a5 w5⟩
end
end K26
namespace K26
open PySem PySem.Spec PyProof.Rows L2 Jg
local macro_rules | `(tactic| walk_at "rd1") => `(tactic| (first
  | refine ⟨_, rfl, ?_⟩
  | refine ⟨_, _, rfl, rfl, ?_⟩
  | refine ⟨_, _, rfl, ?_⟩
  | refine ⟨rfl, ?_⟩
  | (refine ⟨show (0 : Int) < _ by omega, ?_⟩)
  | (refine ⟨Or.inl ⟨by omega, by omega⟩, ?_⟩)
  | (refine ⟨Or.inr ⟨by omega, by omega⟩, ?_⟩)
  | (refine ⟨(⟨by decide, by decide, by decide⟩ : CPow _ _), ?_⟩)
  | refine Or.inl ⟨_, rfl, ?_⟩
  | refine Or.inr ⟨_, rfl, ?_⟩
  | fail "rd"))
local macro_rules | `(tactic| walk_at "rd") => `(tactic| repeat' walk_at "rd1")
theorem gZ_at {kr : List KRow} {i : Nat} {k : KRow} (ok : KrOk kr) (hk : kr[i]? = some k) : gZ kr k.z = k.r.g := by
  unfold gZ
  rw [kr_find ok.nd hk]
theorem mo_lt {ms : List Int} (mo : MsOk ms) : ∀ (d i : Nat) (a b : Int), ms[i]? = some a → ms[i + d + 1]? = some b → a < b
  | 0, i, a, b, ha, hb => mo.inc i a b ha hb
  | d + 1, i, a, b, ha, hb => by
    obtain ⟨c, hc⟩ : ∃ c, ms[i + d + 1]? = some c := ⟨_, List.getElem?_eq_getElem (by have := (List.getElem?_eq_some_iff.mp hb).1; omega)⟩
    have h1 := mo_lt mo d i a c ha hc
    have h2 := mo.inc (i + d + 1) c b hc (by rw [show i + d + 1 + 1 = i + (d + 1) + 1 by omega]; exact hb)
    omega
theorem filt_take {p : Int → Bool} : ∀ (l : List Int) (n : Nat), n ≤ l.length → (∀ (i : Nat) (x : Int), l[i]? = some x → p x = decide (i < n)) → (l.filter p).length = n
  | [], n, h, _ => by
    have : n = 0 := Nat.le_zero.mp h
    rw [this]; rfl
  | x :: r, 0, _, h => by
    have : (x :: r).filter p = [] := List.filter_eq_nil_iff.mpr fun y hy => by
      obtain ⟨i, hi⟩ := List.getElem?_of_mem hy
      rw [h i y hi, decide_eq_false (Nat.not_lt_zero _)]; exact Bool.false_ne_true
    rw [this]; rfl
  | x :: r, n + 1, l, h => by
    have hx := h 0 x rfl
    rw [decide_eq_true (Nat.succ_pos n)] at hx
    rw [List.filter_cons_of_pos hx, List.length_cons, filt_take r n (Nat.le_of_succ_le_succ l) fun i y hy => by
      rw [h (i + 1) y hy]
      exact decide_eq_decide.mpr ⟨fun q => by omega, fun q => by omega⟩]
/-- the edition that is current between its moment and the next one -/
theorem cur_at {ms : List Int} {n : Nat} {m : Int} (mo : MsOk ms) (hn : n < ms.length) (lo : ms.getD n 0 ≤ m) (hi : n + 1 < ms.length → m < ms.getD (n + 1) 0) : curI ms m = n := by
  unfold curI
  rw [filt_take ms (n + 1) hn fun i x hx => ?_]
  · omega
  · have hn' := ms_at hn
    by_cases c : i < n + 1
    · rw [decide_eq_true c]
      refine decide_eq_true ?_
      by_cases e : i = n
      · subst e; rw [hx] at hn'; cases Option.some.inj hn'; exact lo
      · have := mo_lt mo (n - i - 1) i x _ hx (by rw [show i + (n - i - 1) + 1 = n by omega]; exact hn')
        omega
    · rw [decide_eq_false c]
      refine decide_eq_false ?_
      have il := (List.getElem?_eq_some_iff.mp hx).1
      have n1 : n + 1 < ms.length := by omega
      have h1 := hi n1
      have hn1 := ms_at n1
      by_cases e : i = n + 1
      · subst e; rw [hx] at hn1; cases Option.some.inj hn1; omega
      · have := mo_lt mo (i - (n + 1) - 1) (n + 1) _ x hn1 (by rw [show n + 1 + (i - (n + 1) - 1) + 1 = i by omega]; exact hx)
        omega
theorem first_le {ms : List Int} {n : Nat} (mo : MsOk ms) (hn : n < ms.length) : ms.getD 0 0 ≤ ms.getD n 0 := by
  cases n with
  | zero => exact Int.le_refl _
  | succ n =>
    have := mo_lt mo n 0 _ _ (ms_at (by omega)) (by rw [show 0 + n + 1 = n + 1 by omega]; exact ms_at hn)
    omega
theorem at_last {α : Type} {xs ys : List α} {y : α} (h : ys.getLast? = some y) : (xs ++ ys)[xs.length + ys.length - 1]? = some y := by
  have ne : ys ≠ [] := fun z => by rw [z] at h; cases h
  have l : 0 < ys.length := List.length_pos_iff.mpr ne
  rw [List.getLast?_eq_getElem?] at h
  rw [List.getElem?_append_right (by omega), show xs.length + ys.length - 1 - xs.length = ys.length - 1 by omega]
  exact h
/-- THE PLAY: the machines fit, one after another; the last one is of the kind and can be used at the moment -/
theorem play {kr : List KRow} {ms : List Int} {n : Nat} (ok : KrOk kr) (mo : MsOk ms) (hn : n < ms.length) : ∀ (fu : Nat) (so : Option Str) (m : Int) (els : List PW), fu ≤ 5 → InHd ms n (lateZ kr 5 so) m → (∀ z, so = some z → ∃ (i : Nat) (k : KRow), kr[i]? = some k ∧ k.z = z ∧ i < fu) →
    (∀ (i : Nat) (q : MW), (hmL kr ms n fu so m els.length)[i]? = some q → Fits kr ms (els ++ ((hmL kr ms n fu so m els.length).take i).map (toP kr n)) q n) ∧ ∀ z, so = some z → ∃ q, (hmL kr ms n fu so m els.length).getLast? = some q ∧ q.1 = z ∧ q.2.1 ≤ m ∧ m ≤ q.2.1 + gZ kr z - 1
  | fu, none, m, els, _, _, _ => by
    rw [hmL_none]
    exact ⟨fun i q h => by simp at h, fun z e => nomatch e⟩
  | 0, some z, m, els, _, _, h => by
    obtain ⟨i, k, _, _, l⟩ := h z rfl
    exact absurd l (Nat.not_lt_zero _)
  | fu + 1, some z, m, els, f5, ih, h => by
    obtain ⟨i0, k, hk, ez, l0⟩ := h z rfl
    subst ez
    have l1 : 1 ≤ lateZ kr 5 k.r.s := (lateZ_b ok 5 k.r.s).1
    have g1 := (ok.g k (List.mem_of_getElem? hk)).1
    have gz := gZ_at ok hk
    obtain ⟨ird, rdm⟩ := lastR_in mo l1 hn ih.1
    have hs : ∀ y, k.r.s = some y → ∃ (i : Nat) (k' : KRow), kr[i]? = some k' ∧ k'.z = y ∧ i < fu := fun y ey => by
      obtain ⟨j, k', lt, h', q⟩ := take_at (g := KRow.z) (ok.s i0 k y hk ey)
      exact ⟨j, k', h', q, by omega⟩
    have cp := fun c => copy_in (m := m) ok hk (by omega) ih c
    rw [hmL_at ok hk]
    generalize lastR ms n (lateZ kr 5 k.r.s) m = rd at *
    obtain ⟨IH, IL⟩ := play ok mo hn fu k.r.s rd els (by omega) ird hs
    have EM : k.r.s = none → hmL kr ms n fu k.r.s rd els.length = [] := fun e => by rw [e]; exact hmL_none fu
    generalize hmL kr ms n fu k.r.s rd els.length = L at *
    have own : Fits kr ms (els ++ L.map (toP kr n)) (k.z, rd, orgS k.r.s (els.length + L.length)) n := by
      refine ⟨i0, k, hk, rfl, ?_⟩
      cases cs : k.r.s with
      | none =>
        refine ⟨rfl, Int.le_trans (first_le mo hn) ird.1, (cur_at mo hn ird.1 fun n1 => ?_).symm⟩
        have := ird.2 (ms.getD (n + 1) 0 + (lateZ kr 5 k.r.s - 2)) (by unfold endO; rw [if_neg (by omega)])
        rw [cs, lateZ_none] at this
        omega
      | some y =>
        obtain ⟨q, hq, q1, q2, q3⟩ := IL y cs
        have ne : L ≠ [] := fun z => by rw [z] at hq; cases hq
        have lp : 0 < L.length := List.length_pos_iff.mpr ne
        refine ⟨y, els.length + L.length - 1, toP kr n q, rfl, by show ((els.length + L.length : Nat) : Int) - 1 = _; omega, ?_, q1, q2, ?_, rfl⟩
        · have := at_last (xs := els) (ys := L.map (toP kr n)) (y := toP kr n q) (by rw [List.getLast?_map, hq]; rfl)
          rw [List.length_map] at this
          exact this
        · show rd ≤ q.2.1 + gZ kr q.1 - 1
          rw [q1]; exact q3
    by_cases c : rd + k.r.g - 1 < m
    · obtain ⟨a, ea, a0, am⟩ := cp c
      have eo : ageO k.r = a := by unfold ageO; rw [ea]; rfl
      have eL : ownL k.z k.r rd m (els.length + L.length) = [(k.z, rd, orgS k.r.s (els.length + L.length)), (k.z, (if m < rd + k.r.g - 1 + a then m else rd + k.r.g - 1 + a), .cp ((els.length + L.length : Nat) : Int) (rd + k.r.g - 1))] := by
        unfold ownL
        rw [if_pos c, eo]
      rw [eL]
      obtain ⟨b, eb⟩ : ∃ b, b = (if m < rd + k.r.g - 1 + a then m else rd + k.r.g - 1 + a) := ⟨_, rfl⟩
      rw [← eb]
      have b1 : rd + k.r.g - 1 ≤ b ∧ b - a ≤ rd + k.r.g - 1 ∧ b ≤ m ∧ m ≤ b + k.r.g - 1 := by
        rw [eb]; split <;> omega
      refine ⟨fun i q hi => ?_, fun z ez => ⟨_, by rw [List.getLast?_append]; rfl, Option.some.inj ez, b1.2.2.1, ?_⟩⟩
      · by_cases ci : i < L.length
        · rw [List.getElem?_append_left ci] at hi
          rw [List.take_append_of_le_length (by omega)]
          exact IH i q hi
        · rw [List.getElem?_append_right (by omega)] at hi
          obtain ⟨j, rfl⟩ : ∃ j, i = L.length + j := ⟨i - L.length, by omega⟩
          rw [show L.length + j - L.length = j by omega] at hi
          match j, hi with
          | 0, hi =>
            cases Option.some.inj hi
            rw [List.take_append_of_le_length (by omega), List.take_of_length_le (by omega)]
            exact own
          | 1, hi =>
            cases Option.some.inj hi
            have tk : (L ++ [(k.z, rd, orgS k.r.s (els.length + L.length)), (k.z, b, Org.cp ((els.length + L.length : Nat) : Int) (rd + k.r.g - 1))]).take (L.length + 1) = L ++ [(k.z, rd, orgS k.r.s (els.length + L.length))] := by
              rw [List.take_append, List.take_of_length_le (by omega), show L.length + 1 - L.length = 1 by omega]; rfl
            rw [tk]
            refine ⟨i0, k, hk, rfl, a, els.length + L.length, toP kr n (k.z, rd, orgS k.r.s (els.length + L.length)), rd, ea, rfl, b1.2.1, b1.1, ?_, rfl, ?_, by omega, ?_, ?_, rfl⟩
            · rw [List.map_append, ← List.append_assoc, List.getElem?_append_right (by rw [List.length_append, List.length_map]; exact Nat.le_refl _), List.length_append, List.length_map, Nat.sub_self]; rfl
            · show rdyO rd (orgS k.r.s (els.length + L.length)) = some rd
              cases k.r.s <;> rfl
            · show rd ≤ rd + k.r.g - 1
              omega
            · show rd + k.r.g - 1 ≤ rd + gZ kr k.z - 1
              rw [gz]; exact Int.le_refl _
          | j + 2, hi => cases hi
      · cases Option.some.inj ez
        rw [gz]; exact b1.2.2.2
    · have eL : ownL k.z k.r rd m (els.length + L.length) = [(k.z, rd, orgS k.r.s (els.length + L.length))] := by
        unfold ownL
        rw [if_neg c]
      rw [eL]
      refine ⟨fun i q hi => ?_, fun z ez => ⟨_, by rw [List.getLast?_append]; rfl, Option.some.inj ez, rdm, ?_⟩⟩
      · by_cases ci : i < L.length
        · rw [List.getElem?_append_left ci] at hi
          rw [List.take_append_of_le_length (by omega)]
          exact IH i q hi
        · rw [List.getElem?_append_right (by omega)] at hi
          obtain ⟨j, rfl⟩ : ∃ j, i = L.length + j := ⟨i - L.length, by omega⟩
          rw [show L.length + j - L.length = j by omega] at hi
          match j, hi with
          | 0, hi =>
            cases Option.some.inj hi
            rw [List.take_append_of_le_length (by omega), List.take_of_length_le (by omega)]
            exact own
          | j + 1, hi => cases hi
      · cases Option.some.inj ez
        show m ≤ rd + gZ kr k.z - 1
        rw [gz]; omega
end K26
namespace K26
open PySem PySem.Spec PyProof.Rows L2 Jg
local macro_rules | `(tactic| walk_at "rd1") => `(tactic| (first
  | refine ⟨_, rfl, ?_⟩
  | refine ⟨_, _, rfl, rfl, ?_⟩
  | refine ⟨_, _, rfl, ?_⟩
  | refine ⟨rfl, ?_⟩
  | (refine ⟨show (0 : Int) < _ by omega, ?_⟩)
  | (refine ⟨Or.inl ⟨by omega, by omega⟩, ?_⟩)
  | (refine ⟨Or.inr ⟨by omega, by omega⟩, ?_⟩)
  | (refine ⟨(⟨by decide, by decide, by decide⟩ : CPow _ _), ?_⟩)
  | refine Or.inl ⟨_, rfl, ?_⟩
  | refine Or.inr ⟨_, rfl, ?_⟩
  | fail "rd"))
local macro_rules | `(tactic| walk_at "rd") => `(tactic| repeat' walk_at "rd1")
theorem PlrAt.off {H : Hp} {q : Plr} {l : Addr} {qs : List Plr} {o : HO} (h : PlrAt H q) (e : H l = some (.lst (qs.map Plr.v))) (a : ∀ x ∈ qs, PlrAt H x) : PlrAt (upd H l o) q := by
  obtain ⟨ls, t1, e1, e2, e3⟩ := h.ex
  have nt : ∀ {x : Addr} {ys : List V}, H x = some (.tup ys) → x ≠ l := fun z w => by rw [w, e] at z; cases z
  have nl : ls ≠ l := fun z => by
    rw [z, e] at e2
    have e2 := HO.lst.inj (Option.some.inj e2)
    match qs, e2, a with
    | [x], e2, a =>
      have ex : x.t = t1 := V.ref.inj (List.cons.inj e2).1
      obtain ⟨_, _, b1, _⟩ := (a x (List.mem_singleton.mpr rfl)).ex
      rw [ex, e3] at b1
      cases b1
  exact ⟨ls, t1, by rw [upd_ne (nt e1)]; exact e1, by rw [upd_ne nl]; exact e2, by rw [upd_ne (nt e3)]; exact e3⟩
theorem plr_at {qs : List Plr} {i : Nat} {q : Plr} (h : qs[i]? = some q) : (qs.map Plr.v)[i]? = some (.ref q.t) := by rw [List.getElem?_map, h]; rfl
def spCurr : Sp := fun vs H Q _ => ∃ (lm : Addr) (ms : List Int) (m : Int), vs = [.ref lm, .int m] ∧ H lm = some (.lst (ms.map V.int)) ∧ ms.length ≤ 100 ∧ ∀ H', Same H H' → Q (.int (curI ms m)) H'
@[irreducible] def spHolds : Sp := fun vs H Q _ => ∃ (q : Plr) (m : Int), vs = [.ref q.t, .int m] ∧ PlrAt H q ∧ q.w.2.1 ≤ m ∧ m ≤ q.w.2.2.2.1 ∧ ∀ H', Same H H' → Q (.int q.w.2.2.1) H'
theorem use_holds {q : Plr} {m : Int} {H : Hp} {Q : VK} {E : XK} (h : PlrAt H q) (lo : q.w.2.1 ≤ m) (hi : m ≤ q.w.2.2.2.1) (k : ∀ H', Same H H' → Q (.int q.w.2.2.1) H') : spHolds [.ref q.t, .int m] H Q E := by
  unfold spHolds
  exact ⟨q, m, rfl, h, lo, hi, k⟩
section
variable {P : Program} {w : World} {K : PySem.W.Frag} {mg : Str → Option Value} {base : Heap}
theorem sc_law_current : FnScope ["moments", "moment", "one"] ["moments", "moment"] (defScope s_law_current) := ⟨rfl, rfl, rfl, by decide +kernel, rfl, by decide +kernel, by decide +kernel⟩
theorem ok_curr (D : DefK K mg "_law_current" s_law_current) (T : TxP K mg) : Cal P w K mg base CX0 1 "_law_current" spCurr := by
  refine D.cal sc_law_current (fun _ _ _ _ _ _ us hl => match us, hl with | [_, _], _ => rfl) (fun vs H Q E h => ?_) fun f cdv A outer s H vs Q E hr h => ?_
  · obtain ⟨lm, ms, m, rfl, _⟩ := h; rfl
  · obtain ⟨lm, ms, m, rfl, em, l9, k⟩ := h
    refine ⟨_, (pss_one (ps_ret (pe_op op_sub (pe_callB call_len_seq (by rfl) T.b_len (by decide +kernel) (pa_cons (pe_lc (own := [("one", 2)]) (g := gName 2) (by rfl) sc_law_current.nd (pi_list (pv 0)) (blkOk_by (own := [("one", 2)]) (N := ["moments", "moment", "one"]) (sc := defScope s_law_current) (by decide +kernel)) (fun _ _ _ _ _ => pg_name (i := 2) sc_law_current.nd rfl (Or.inl rfl)) (fun _ _ _ _ _ => (pts_one (pt_cmpR op_le (pv 2) (pv 1) (nomark _)))) (fun _ _ _ _ _ => (pv 2))) pa_nil)) pe_int))), ?_⟩
    refine ⟨_, rfl, lm, rfl, ⟨_, SqL.of em⟩, fun D nD => ?_⟩
    refine lc_list (K := K) (a := lm) (xs := ms.map V.int) (fun j H' => H' D = some (.lst (((ms.take j).filter fun x => decide (x ≤ m)).map V.int)) ∧ Same H H') ⟨upd_same, same_new nD⟩ (fun j H' _ ⟨_, s⟩ => SqL.of (s _ _ em)) ?_ ?_
    · rintro j y H' hy ⟨eD, s'⟩
      obtain ⟨x, hx, rfl⟩ : ∃ x, ms[j]? = some x ∧ y = .int x := by
        rw [List.getElem?_map] at hy
        cases c : ms[j]? with
        | none => rw [c] at hy; cases hy
        | some x => rw [c] at hy; exact ⟨x, rfl, (Option.some.inj hy).symm⟩
      have nx : (ms.take (j + 1)).filter (fun x => decide (x ≤ m)) = (ms.take j).filter (fun x => decide (x ≤ m)) ++ (if x ≤ m then [x] else []) := by
        rw [List.take_succ, hx, List.filter_append]
        show _ ++ List.filter _ [x] = _
        by_cases c : x ≤ m
        · rw [if_pos c, List.filter_cons_of_pos (by exact decide_eq_true c)]; rfl
        · rw [if_neg c, List.filter_cons_of_neg (by rw [decide_eq_false c]; decide)]; rfl
      refine ⟨rfl, _, rfl, _, rfl, _, _, rfl, rfl, _, rfl, ?_⟩
      by_cases c : x ≤ m
      · refine iteTe (decide_eq_true c) ⟨_, rfl, _, eD, ?_, ?_, same_mut s' nD⟩
        · have := List.length_filter_le (fun x : Int => decide (x ≤ m)) (ms.take j)
          rw [List.length_take] at this
          rw [List.length_map, sizeLine_eq]; omega
        · rw [upd_same, nx, if_pos c, List.map_append]; rfl
      · refine iteFe (decide_eq_false c) ⟨?_, s'⟩
        rw [nx, if_neg c, List.append_nil]; exact eD
    · rintro H' ⟨eD, s'⟩
      rw [List.length_map, List.take_length] at eD
      refine ⟨D, _, rfl, .inl (SqL.of eD), _, _, rfl, rfl, ?_⟩
      rw [List.length_map]
      exact k H' s'
theorem sc_law_holds : FnScope ["played", "moment", "name", "steps", "until", "locked", "ready", "begun", "number"] ["played", "moment"] (defScope s_law_holds) := ⟨rfl, rfl, rfl, by decide +kernel, rfl, by decide +kernel, by decide +kernel⟩
theorem ok_holds (D : DefK K mg "_law_holds" s_law_holds) : Cal P w K mg base CX0 1 "_law_holds" spHolds := by
  refine D.cal sc_law_holds (fun _ _ _ _ _ _ us hl => match us, hl with | [_, _], _ => rfl) (fun vs H Q E h => ?_) fun f cdv A outer s H vs Q E hr h => ?_
  · unfold spHolds at h; obtain ⟨q, m, rfl, _⟩ := h; rfl
  · unfold spHolds at h; obtain ⟨q, m, rfl, h, lo, hi, k⟩ := h
    obtain ⟨ls, t1, e1, e2, e3⟩ := h.ex
    refine ⟨_, (pss_cons (ps_asg (pv 0) (pg_tup rfl (pgs_cons (pg_name (i := 2) sc_law_holds.nd rfl (Or.inl rfl)) (pgs_cons (pg_name (i := 3) sc_law_holds.nd rfl (Or.inl rfl)) (pgs_cons (pg_name (i := 4) sc_law_holds.nd rfl (Or.inl rfl)) (pgs_cons (pg_name (i := 5) sc_law_holds.nd rfl (Or.inl rfl)) (pgs_cons (pg_name (i := 6) sc_law_holds.nd rfl (Or.inl rfl)) pgs_nil)))))))
      (pss_cons (ps_if (PW.pt (pw_or (pt_cmpR op_lt (pv 1) (pe_ix (r := rIxT K) ix_tup (pe_ix (r := rIxL K) ix_list (pv 3) pe_int (fun _ _ => rfl)) pe_int (fun _ _ => rfl)) (nomark _)) (pw_or (pt_cmpR op_gt (pv 1) (pv 4) (nomark _)) (pw_or1 (PW.pt (pw_and (pt_cmpR op_notN (pv 5) pe_non (nomark _)) (pw_and1 (pt_cmpR op_ge (pv 1) (pe_ix (r := rIxT K) ix_tup (pv 5) pe_int (fun _ _ => rfl)) (nomark _))))))))) (pss_one (ps_ret pe_non)) pss_nil)
      (pss_one (ps_ret (pe_ix (r := rIxL K) ix_list (pe_lc (own := [("begun", 7), ("number", 8)]) (g := gTup K 2 (gCons (gName 7) (gCons (gName 8) gNil))) (by rfl) sc_law_holds.nd (pi_list (pv 3)) (blkOk_by (own := [("begun", 7), ("number", 8)]) (N := ["played", "moment", "name", "steps", "until", "locked", "ready", "begun", "number"]) (sc := defScope s_law_holds) (by decide +kernel)) (fun _ _ _ _ _ => pg_tup rfl (pgs_cons (pg_name (i := 7) sc_law_holds.nd rfl (Or.inl rfl)) (pgs_cons (pg_name (i := 8) sc_law_holds.nd rfl (Or.inl rfl)) pgs_nil))) (fun _ _ _ _ _ => (pts_one (pt_cmpR op_le (pv 7) (pv 1) (nomark _)))) (fun _ _ _ _ _ => (pv 8))) (pe_un un_neg pe_int) (fun _ _ => rfl)))))), ?_⟩
    refine ⟨_, rfl, q.t, _, rfl, SqT.of e1, rfl, _, _, rfl, _, _, rfl, _, _, rfl, _, _, rfl, _, _, rfl, rfl, ?_⟩
    refine ⟨_, rfl, _, rfl, ls, _, 0, _, rfl, rfl, SqL.of e2, atI_nat (j := 0) rfl, t1, _, 0, _, rfl, rfl, SqT.of e3, atI_nat (j := 0) rfl, _, _, rfl, rfl, _, rfl, iteFe (decide_eq_false (by omega)) ?_⟩
    refine ⟨_, rfl, _, rfl, _, _, rfl, rfl, _, rfl, iteFe (decide_eq_false (by omega)) ?_⟩
    refine ⟨_, rfl, rfl, _, rfl, iteF (iteF ?_)⟩
    refine ⟨_, rfl, ls, rfl, ⟨_, SqL.of e2⟩, fun D nD => ?_⟩
    refine lc_list (K := K) (a := ls) (xs := [.ref t1]) (fun j H' => H' D = some (.lst (if j = 0 then [] else [.int q.w.2.2.1])) ∧ Same H H') ⟨upd_same, same_new nD⟩ (fun j H' _ ⟨_, s⟩ => SqL.of (s _ _ e2)) ?_ ?_
    · rintro j y H' hy ⟨eD, s'⟩
      match j, hy with
      | 0, hy =>
        cases Option.some.inj hy
        refine ⟨t1, _, rfl, SqT.of (s' _ _ e3), rfl, _, _, rfl, _, _, rfl, rfl, rfl, _, rfl, _, rfl, _, _, rfl, rfl, _, rfl, iteTe (decide_eq_true lo) ?_⟩
        exact ⟨_, rfl, _, eD, by show 0 < sizeLine; decide, upd_same, same_mut s' nD⟩
      | j + 1, hy => cases hy
    · rintro H' ⟨eD, s'⟩
      exact ⟨1, rfl, D, _, _, _, rfl, rfl, SqL.of eD, atI_last [] _, k H' s'⟩
end
end K26
namespace K26
open PySem PySem.Spec PyProof.Rows L2 Jg
local macro_rules | `(tactic| walk_at "rd1") => `(tactic| (first
  | refine ⟨_, rfl, ?_⟩
  | refine ⟨_, _, rfl, rfl, ?_⟩
  | refine ⟨_, _, rfl, ?_⟩
  | refine ⟨rfl, ?_⟩
  | (refine ⟨show (0 : Int) < _ by omega, ?_⟩)
  | (refine ⟨Or.inl ⟨by omega, by omega⟩, ?_⟩)
  | (refine ⟨Or.inr ⟨by omega, by omega⟩, ?_⟩)
  | (refine ⟨(⟨by decide, by decide, by decide⟩ : CPow _ _), ?_⟩)
  | refine Or.inl ⟨_, rfl, ?_⟩
  | refine Or.inr ⟨_, rfl, ?_⟩
  | fail "rd"))
local macro_rules | `(tactic| walk_at "rd") => `(tactic| repeat' walk_at "rd1")
@[irreducible] def spRead (K : PySem.W.Frag) : Sp := fun vs H Q _ => ∃ (lm lf : Addr) (ms : List Int) (qs : List Plr) (so : Option Str) (wv : V) (b num : Int), vs = [.ref lm, .ref lf, K26F.sV so, wv, .int b] ∧ H lm = some (.lst (ms.map V.int)) ∧ 1 ≤ ms.length ∧ ms.length ≤ 100 ∧ H lf = some (.lst (qs.map Plr.v)) ∧ (∀ q ∈ qs, PlrAt H q) ∧
  ((so = none ∧ wv = .non ∧ ms.getD 0 0 ≤ b ∧ num = curI ms b) ∨ ∃ (y : Str) (i : Nat) (q : Plr), so = some y ∧ wv = .int (i : Nat) ∧ qs[i]? = some q ∧ q.w.1 = y ∧ q.w.2.1 ≤ b ∧ b ≤ q.w.2.2.2.1 ∧ num = q.w.2.2.1) ∧ ∀ H', Same H H' → Q (.int num) H'
@[irreducible] def spCpy : Sp := fun vs H Q _ => ∃ (lf o : Addr) (qs : List Plr) (z : Str) (a c b r : Int) (i : Nat) (q : Plr), vs = [.ref lf, .str z, .int a, .ref o, .int b] ∧ H lf = some (.lst (qs.map Plr.v)) ∧ (∀ q ∈ qs, PlrAt H q) ∧ H o = some (.tup [.int (i : Nat), .int c]) ∧ b - a ≤ c ∧ c ≤ b ∧ qs[i]? = some q ∧ q.w.1 = z ∧ q.w.2.2.2.2 = some r ∧ r ≤ c ∧ q.w.2.1 ≤ c ∧ c ≤ q.w.2.2.2.1 ∧ ∀ H', Same H H' → Q (.int q.w.2.2.1) H'
section
variable {P : Program} {w : World} {K : PySem.W.Frag} {mg : Str → Option Value} {base : Heap}
theorem sc_law_reading : FnScope ["moments", "elder", "feeder", "where", "moment"] ["moments", "elder", "feeder", "where", "moment"] (defScope s_law_reading) := ⟨rfl, rfl, rfl, by decide +kernel, rfl, by decide +kernel, by decide +kernel⟩
theorem ok_read (D : DefK K mg "_law_reading" s_law_reading) (T : TxP K mg) (TC : K26C.Txt K mg) (G_law_current : Cal P w K mg base CX0 1 "_law_current" spCurr) (G_law_holds : Cal P w K mg base CX0 1 "_law_holds" spHolds) : Cal P w K mg base CX0 2 "_law_reading" (spRead K) := by
  refine D.cal sc_law_reading (fun _ _ _ _ _ _ us hl => match us, hl with | [_, _, _, _, _], _ => rfl) (fun vs H Q E h => ?_) fun f cdv A outer s H vs Q E hr h => ?_
  · unfold spRead at h; obtain ⟨lm, lf, ms, qs, so, wv, b, num, rfl, _⟩ := h; rfl
  · unfold spRead at h; obtain ⟨lm, lf, ms, qs, so, wv, b, num, rfl, em, m1, m9, ef, af, h, k⟩ := h
    refine ⟨_, (pss_cons (ps_if (pt_cmpR op_isN (pv 2) pe_non (nomark _)) (pss_one (ps_ret (pe_ifExp (PW.pt (pw_and (pt_cmpR op_isN (pv 3) pe_non (nomark _)) (pw_and1 (pt_cmpR op_ge (pv 4) (pe_ix (r := rIxL K) ix_list (pv 0) pe_int (fun _ _ => rfl)) (nomark _))))) (pe_c G_law_current hr (by decide) rfl (pa_cons (pv 0) (pa_cons (pv 4) pa_nil))) pe_non))) pss_nil)
      (pss_cons (ps_if (PW.pt (pw_or (pt_not (pt_val (pe_callB call_isi (by rfl) T.b_isinstance (by decide +kernel) (pa_cons (pv 3) (pa_cons (pe_ty (n := "int") (by rfl) TC.b_int (by decide +kernel)) pa_nil))))) (pw_or (pt_not (pt_chain op_le op_lt pe_int (pv 3) (pe_callB call_len_seq (by rfl) T.b_len (by decide +kernel) (pa_cons (pv 1) pa_nil)))) (pw_or1 (pt_cmpR op_ne (pe_ix (r := rIxT K) ix_tup (pe_ix (r := rIxL K) ix_list (pv 1) (pv 3) (fun _ _ => rfl)) pe_int (fun _ _ => rfl)) (pv 2) (nomark _)))))) (pss_one (ps_ret pe_non)) pss_nil)
      (pss_one (ps_ret (pe_c G_law_holds hr (by decide) rfl (pa_cons (pe_ix (r := rIxL K) ix_list (pv 1) (pv 3) (fun _ _ => rfl)) (pa_cons (pv 4) pa_nil))))))), ?_⟩
    rcases h with ⟨rfl, rfl, lo, rfl⟩ | ⟨y, i, q, rfl, rfl, hq, rfl, lo, hi, rfl⟩
    · have a0 : atI (ms.map V.int) 0 = some (.int (ms.getD 0 0)) := atI_nat (j := 0) (ms_vat (by omega))
      refine ⟨_, rfl, rfl, _, rfl, iteT ?_⟩
      refine ⟨_, rfl, rfl, _, rfl, iteT ?_⟩
      refine ⟨_, rfl, _, rfl, lm, _, 0, _, rfl, rfl, SqL.of em, a0, _, _, rfl, rfl, _, rfl, iteTe (decide_eq_true lo) ?_⟩
      exact ⟨_, rfl, _, rfl, lm, ms, b, rfl, em, m9, k⟩
    · obtain ⟨ls, t1, e1, e2, e3⟩ := (af q (List.mem_of_getElem? hq)).ex
      have il := (List.getElem?_eq_some_iff.mp hq).1
      refine ⟨_, rfl, rfl, _, rfl, iteF ?_⟩
      refine ⟨_, rfl, .int (i : Nat), .ty "int", _, _, true, rfl, .ty "int", .base (.int _), K26F.kii, true, rfl, iteFe rfl ?_⟩
      refine ⟨_, rfl, 0, _, rfl, rfl, _, rfl, iteTe (decide_eq_true (by omega)) ?_⟩
      refine ⟨_, rfl, lf, _, rfl, .inl (SqL.of ef), _, _, rfl, rfl, _, rfl, iteFe (by rw [List.length_map]; show (!decide ((i : Int) < (qs.length : Int))) = false; rw [decide_eq_true (by omega)]; rfl) ?_⟩
      refine ⟨_, rfl, _, rfl, lf, _, _, .ref q.t, rfl, rfl, SqL.of ef, atI_nat (j := i) (plr_at hq), q.t, _, 0, _, rfl, rfl, SqT.of e1, atI_nat (j := 0) rfl, _, rfl, rfl, _, rfl, iteFe (by show (!decide (V.str q.w.1 = V.str q.w.1)) = false; rw [decide_eq_true rfl]; rfl) ?_⟩
      exact ⟨_, rfl, _, rfl, lf, _, _, .ref q.t, rfl, rfl, SqL.of ef, atI_nat (j := i) (plr_at hq), _, rfl, use_holds (af q (List.mem_of_getElem? hq)) lo hi k⟩
theorem sc_law_copy : FnScope ["elder", "name", "aged", "origin", "begun", "where", "moment"] ["elder", "name", "aged", "origin", "begun"] (defScope s_law_copy) := ⟨rfl, rfl, rfl, by decide +kernel, rfl, by decide +kernel, by decide +kernel⟩
theorem ok_cpy (D : DefK K mg "_law_copy" s_law_copy) (T : TxP K mg) (G_law_holds : Cal P w K mg base CX0 1 "_law_holds" spHolds) : Cal P w K mg base CX0 2 "_law_copy" spCpy := by
  refine D.cal sc_law_copy (fun _ _ _ _ _ _ us hl => match us, hl with | [_, _, _, _, _], _ => rfl) (fun vs H Q E h => ?_) fun f cdv A outer s H vs Q E hr h => ?_
  · unfold spCpy at h; obtain ⟨lf, o, qs, z, a, c, b, r, i, q, rfl, _⟩ := h; rfl
  · unfold spCpy at h; obtain ⟨lf, o, qs, z, a, c, b, r, i, q, rfl, ef, af, eo, b1, b2, hq, rfl, hr9, r1, lo, hi, k⟩ := h
    refine ⟨_, (pss_cons (ps_asg (pv 3) (pg_tup rfl (pgs_cons (pg_name (i := 5) sc_law_copy.nd rfl (Or.inl rfl)) (pgs_cons (pg_name (i := 6) sc_law_copy.nd rfl (Or.inl rfl)) pgs_nil))))
      (pss_cons (ps_if (PW.pt (pw_or (pt_cmpR op_isN (pv 2) pe_non (nomark _)) (pw_or (pt_not (pt_chain op_le op_le (pe_op op_sub (pv 4) (pv 2)) (pv 6) (pv 4))) (pw_or1 (pt_not (pt_chain op_le op_lt pe_int (pv 5) (pe_callB call_len_seq (by rfl) T.b_len (by decide +kernel) (pa_cons (pv 0) pa_nil)))))))) (pss_one (ps_ret pe_non)) pss_nil)
      (pss_cons (ps_if (PW.pt (pw_or (pt_cmpR op_ne (pe_ix (r := rIxT K) ix_tup (pe_ix (r := rIxL K) ix_list (pv 0) (pv 5) (fun _ _ => rfl)) pe_int (fun _ _ => rfl)) (pv 1) (nomark _)) (pw_or (pt_cmpR op_isN (pe_ix (r := rIxT K) ix_tup (pe_ix (r := rIxL K) ix_list (pv 0) (pv 5) (fun _ _ => rfl)) pe_int (fun _ _ => rfl)) pe_non (nomark _)) (pw_or1 (pt_cmpR op_gt (pe_ix (r := rIxT K) ix_tup (pe_ix (r := rIxL K) ix_list (pv 0) (pv 5) (fun _ _ => rfl)) pe_int (fun _ _ => rfl)) (pv 6) (nomark _)))))) (pss_one (ps_ret pe_non)) pss_nil)
      (pss_one (ps_ret (pe_c G_law_holds hr (by decide) rfl (pa_cons (pe_ix (r := rIxL K) ix_list (pv 0) (pv 5) (fun _ _ => rfl)) (pa_cons (pv 6) pa_nil)))))))), ?_⟩
    obtain ⟨ls, t1, e1, e2, e3⟩ := (af q (List.mem_of_getElem? hq)).ex
    have il := (List.getElem?_eq_some_iff.mp hq).1
    refine ⟨_, rfl, o, _, rfl, SqT.of eo, rfl, _, _, rfl, _, _, rfl, rfl, ?_⟩
    refine ⟨_, rfl, rfl, _, rfl, iteF ?_⟩
    refine ⟨_, rfl, _, rfl, _, _, rfl, rfl, _, rfl, _, _, rfl, rfl, _, rfl, iteTe (decide_eq_true b1) ⟨_, rfl, _, _, rfl, rfl, _, rfl, iteFe (by show (!decide (c ≤ b)) = false; rw [decide_eq_true b2]; rfl) ?_⟩⟩
    refine ⟨_, rfl, 0, _, rfl, rfl, _, rfl, iteTe (decide_eq_true (by omega)) ?_⟩
    refine ⟨_, rfl, lf, _, rfl, .inl (SqL.of ef), _, _, rfl, rfl, _, rfl, iteFe (by rw [List.length_map]; show (!decide ((i : Int) < (qs.length : Int))) = false; rw [decide_eq_true (by omega)]; rfl) ?_⟩
    have e1' : H q.t = some (.tup [.str q.w.1, .ref ls, .int q.w.2.2.2.1, .non, .int r]) := by rw [e1, hr9]; rfl
    refine ⟨_, rfl, _, rfl, lf, _, _, .ref q.t, rfl, rfl, SqL.of ef, atI_nat (j := i) (plr_at hq), q.t, _, 0, _, rfl, rfl, SqT.of e1', atI_nat (j := 0) rfl, _, rfl, rfl, _, rfl, iteFe (by show (!decide (V.str q.w.1 = V.str q.w.1)) = false; rw [decide_eq_true rfl]; rfl) ?_⟩
    refine ⟨_, rfl, _, rfl, lf, _, _, .ref q.t, rfl, rfl, SqL.of ef, atI_nat (j := i) (plr_at hq), q.t, _, 4, _, rfl, rfl, SqT.of e1', atI_nat (j := 4) rfl, rfl, _, rfl, iteF ?_⟩
    refine ⟨_, rfl, _, rfl, lf, _, _, .ref q.t, rfl, rfl, SqL.of ef, atI_nat (j := i) (plr_at hq), q.t, _, 4, _, rfl, rfl, SqT.of e1', atI_nat (j := 4) rfl, _, rfl, _, _, rfl, rfl, _, rfl, iteFe (decide_eq_false (by omega)) ?_⟩
    exact ⟨_, rfl, _, rfl, lf, _, _, .ref q.t, rfl, rfl, SqL.of ef, atI_nat (j := i) (plr_at hq), _, rfl, use_holds (af q (List.mem_of_getElem? hq)) lo hi k⟩
end
end K26
namespace K26
open PySem PySem.Spec PyProof.Rows L2 Jg
local macro_rules | `(tactic| walk_at "rd1") => `(tactic| (first
  | refine ⟨_, rfl, ?_⟩
  | refine ⟨_, _, rfl, rfl, ?_⟩
  | refine ⟨_, _, rfl, ?_⟩
  | refine ⟨rfl, ?_⟩
  | (refine ⟨show (0 : Int) < _ by omega, ?_⟩)
  | (refine ⟨Or.inl ⟨by omega, by omega⟩, ?_⟩)
  | (refine ⟨Or.inr ⟨by omega, by omega⟩, ?_⟩)
  | (refine ⟨(⟨by decide, by decide, by decide⟩ : CPow _ _), ?_⟩)
  | refine Or.inl ⟨_, rfl, ?_⟩
  | refine Or.inr ⟨_, rfl, ?_⟩
  | fail "rd"))
local macro_rules | `(tactic| walk_at "rd") => `(tactic| repeat' walk_at "rd1")
def lastJ (ms : List Int) (la : Int) (i : Nat) : Int := ms.getD (i + 1) 0 + la - 1
def jmRow (ms : List Int) (la : Int) (i n : Nat) : List (Int × Int) := ((List.range n).filter fun d => decide (ms.getD (i + 1 + d) 0 ≤ lastJ ms la i)).map fun d => ((i : Int), ((i + 1 + d : Nat) : Int))
def jmUp (ms : List Int) (la : Int) : Nat → List (Int × Int)
  | 0 => []
  | n + 1 => jmUp ms la n ++ jmRow ms la n (ms.length - (n + 1))
def jmps (ms : List Int) (la : Int) : List (Int × Int) := jmUp ms la (ms.length - 1)
theorem jmRow_mem {ms : List Int} {la : Int} {i n : Nat} {q : Int × Int} : q ∈ jmRow ms la i n ↔ ∃ d, d < n ∧ ms.getD (i + 1 + d) 0 ≤ lastJ ms la i ∧ q = ((i : Int), ((i + 1 + d : Nat) : Int)) := by
  unfold jmRow
  rw [List.mem_map]
  constructor
  · rintro ⟨d, hd, rfl⟩
    rw [List.mem_filter, List.mem_range] at hd
    exact ⟨d, hd.1, of_decide_eq_true hd.2, rfl⟩
  · rintro ⟨d, lt, le, rfl⟩
    exact ⟨d, List.mem_filter.mpr ⟨List.mem_range.mpr lt, decide_eq_true le⟩, rfl⟩
theorem jmUp_mem {ms : List Int} {la : Int} {q : Int × Int} : ∀ n, q ∈ jmUp ms la n ↔ ∃ i, i < n ∧ q ∈ jmRow ms la i (ms.length - (i + 1))
  | 0 => ⟨(fun h => nomatch h), fun ⟨_, h, _⟩ => absurd h (Nat.not_lt_zero _)⟩
  | n + 1 => by
    show q ∈ jmUp ms la n ++ jmRow ms la n (ms.length - (n + 1)) ↔ _
    rw [List.mem_append, jmUp_mem n]
    constructor
    · rintro (⟨i, lt, h⟩ | h)
      · exact ⟨i, by omega, h⟩
      · exact ⟨n, by omega, h⟩
    · rintro ⟨i, lt, h⟩
      by_cases c : i = n
      · subst c; exact .inr h
      · exact .inl ⟨i, by omega, h⟩
theorem jmps_mem {ms : List Int} {la : Int} {q : Int × Int} : q ∈ jmps ms la ↔ ∃ i j : Nat, i < j ∧ j < ms.length ∧ ms.getD j 0 ≤ lastJ ms la i ∧ q = ((i : Int), (j : Int)) := by
  unfold jmps
  rw [jmUp_mem]
  constructor
  · rintro ⟨i, lt, h⟩
    obtain ⟨d, ld, le, rfl⟩ := jmRow_mem.mp h
    exact ⟨i, i + 1 + d, by omega, by omega, le, rfl⟩
  · rintro ⟨i, j, lt, lj, le, rfl⟩
    refine ⟨i, by omega, jmRow_mem.mpr ⟨j - (i + 1), by omega, ?_, ?_⟩⟩
    · rw [show i + 1 + (j - (i + 1)) = j by omega]; exact le
    · rw [show i + 1 + (j - (i + 1)) = j by omega]
theorem jmRow_len {ms : List Int} {la : Int} {i n : Nat} : (jmRow ms la i n).length ≤ n := by
  unfold jmRow
  rw [List.length_map]
  have := List.length_filter_le (fun d => decide (ms.getD (i + 1 + d) 0 ≤ lastJ ms la i)) (List.range n)
  rw [List.length_range] at this; exact this
theorem jmUp_len {ms : List Int} {la : Int} : ∀ n, (jmUp ms la n).length ≤ n * ms.length
  | 0 => Nat.zero_le _
  | n + 1 => by
    show (jmUp ms la n ++ jmRow ms la n (ms.length - (n + 1))).length ≤ _
    rw [List.length_append, Nat.add_mul]
    have a := jmUp_len (ms := ms) (la := la) n
    have b := jmRow_len (ms := ms) (la := la) (i := n) (n := ms.length - (n + 1))
    omega
theorem jmRow_yes {ms : List Int} {la : Int} {i d : Nat} (h : ms.getD (i + 1 + d) 0 ≤ lastJ ms la i) : jmRow ms la i (d + 1) = jmRow ms la i d ++ [((i : Int), ((i + 1 + d : Nat) : Int))] := by
  unfold jmRow
  rw [rng_yes (p := fun d => decide (ms.getD (i + 1 + d) 0 ≤ lastJ ms la i)) (decide_eq_true h), List.map_append]; rfl
theorem jmRow_no {ms : List Int} {la : Int} {i d : Nat} (h : ¬ ms.getD (i + 1 + d) 0 ≤ lastJ ms la i) : jmRow ms la i (d + 1) = jmRow ms la i d := by
  unfold jmRow
  rw [rng_no (p := fun d => decide (ms.getD (i + 1 + d) 0 ≤ lastJ ms la i)) (decide_eq_false h)]
def spLastJ : Sp := fun vs H Q _ => ∃ l ms i la, vs = [.ref l, .int (i : Nat), .int la] ∧ H l = some (.lst (ms.map V.int)) ∧ i + 1 < ms.length ∧ Q (.int (lastJ ms la i)) H
def spJmPairs : Sp := fun vs H Q _ => ∃ l ms la, vs = [.ref l, .int la] ∧ H l = some (.lst (ms.map V.int)) ∧ 1 ≤ ms.length ∧ ms.length ≤ 100 ∧ ∀ f H', H f = none → Same H H' → PrsAt H' f (jmps ms la) → Q (.ref f) H'
@[irreducible] def spJumps (K : PySem.W.Frag) (PC C FC KC CU : Addr) : Sp := fun vs H Q E => ∃ p es f ks cl y e0, vs = [.ref p, .ref f, y] ∧ PlAt PC C H p es ∧ FlAt FC KC H f ks cl ∧ es[0]? = some e0 ∧
  Askd K CU H (e0.c.us.map (·.z)) cl ks y E fun z => ∀ l H', H l = none → Same H H' → PrsAt H' l (jmps (mos es) (lateK ks z)) → Q (.ref l) H'
section
variable {P : Program} {w : World} {K : PySem.W.Frag} {mg : Str → Option Value} {base : Heap} {C PC CU CE CM RC FC KC : Addr}
theorem sc_last_jump : FnScope ["moments", "early", "lateness"] ["moments", "early", "lateness"] (defScope s_last_jump) := ⟨rfl, rfl, rfl, by decide +kernel, rfl, by decide +kernel, by decide +kernel⟩
theorem ok_lastj (D : DefK K mg "last_jump" s_last_jump) : Cal P w K mg base CX0 1 "last_jump" spLastJ := by
  refine D.cal sc_last_jump (fun _ _ _ _ _ _ us hl => match us, hl with | [_, _, _], _ => rfl) (fun vs H Q E h => ?_) fun f0 cdv A outer s H vs Q E hr h => ?_
  · obtain ⟨l, ms, i, la, rfl, _⟩ := h; rfl
  · obtain ⟨l, ms, i, la, rfl, el, lt, k⟩ := h
    refine ⟨_, (pss_one (ps_ret (pe_op op_sub (pe_op op_add (pe_ix (r := rIxL K) ix_list (pv 0) (pe_op op_add (pv 1) pe_int) (fun _ _ => rfl)) (pv 2)) pe_int))), ?_⟩
    exact ⟨_, rfl, _, rfl, _, _, rfl, rfl, l, _, _, _, rfl, rfl, SqL.of el, atI_nat (j := i + 1) (ms_vat lt), _, rfl, _, _, rfl, rfl, _, _, rfl, rfl, k⟩
theorem sc_jump_pairs : FnScope ["moments", "lateness", "found", "early", "last", "late"] ["moments", "lateness"] (defScope s_jump_pairs) := ⟨rfl, rfl, rfl, by decide +kernel, rfl, by decide +kernel, by decide +kernel⟩
theorem ok_jpairs (D : DefK K mg "jump_pairs" s_jump_pairs) (T : TxP K mg) (G_last_jump : Cal P w K mg base CX0 1 "last_jump" spLastJ) : Cal P w K mg base CX0 2 "jump_pairs" spJmPairs := by
  refine D.cal sc_jump_pairs (fun _ _ _ _ _ _ us hl => match us, hl with | [_, _], _ => rfl) (fun vs H Q E h => ?_) fun f0 cdv A outer s H vs Q E hr h => ?_
  · obtain ⟨l, ms, la, rfl, _⟩ := h; rfl
  · obtain ⟨l, ms, la, rfl, el, n1, n100, k⟩ := h
    refine ⟨_, (pss_cons (ps_set (i := 2) sc_jump_pairs.nd rfl (Or.inl rfl) (pe_lst pa_nil))
      (pss_cons (ps_for PassesOwn.never rfl (pi_range1 (by rfl) T.b_range (pa_cons (pe_op op_sub (pe_callB call_len_seq (by rfl) T.b_len (by decide +kernel) (pa_cons (pv 0) pa_nil)) pe_int) pa_nil)) (pg_name (i := 3) sc_jump_pairs.nd rfl (Or.inl rfl)) (pss_cons (ps_set (i := 4) sc_jump_pairs.nd rfl (Or.inl rfl) (pe_c G_last_jump hr (by decide) rfl (pa_cons (pv 0) (pa_cons (pv 3) (pa_cons (pv 1) pa_nil)))))
      (pss_one (ps_for PassesOwn.never rfl (pi_range2W (by rfl) T.b_range (pa_cons (pe_op op_add (pv 3) pe_int) (pa_cons (pe_callB call_len_seq (by rfl) T.b_len (by decide +kernel) (pa_cons (pv 0) pa_nil)) pa_nil))) (pg_name (i := 5) sc_jump_pairs.nd rfl (Or.inl rfl)) (pss_one (ps_if (pt_cmpR op_le (pe_ix (r := rIxL K) ix_list (pv 0) (pv 5) (fun _ _ => rfl)) (pv 4) (nomark _)) (pss_one (ps_expr (pe_bm F.plainAttrs_list F.slot_list_append F.type_list_append mt_append (pv 2) (pa_cons (pe_tup (pa_cons (pv 3) (pa_cons (pv 5) pa_nil))) pa_nil)))) pss_nil))))))
      (pss_one (ps_ret (pv 2))))), ?_⟩
    have ln : (ms.map V.int).length = ms.length := List.length_map ..
    refine ⟨by show 0 ≤ sizeLine; decide, fun f nf => ⟨_, rfl, l, _, rfl, .inl (SqL.of (same_new nf _ _ el)), _, _, rfl, rfl, _, rfl, by rw [ln]; omega, by rw [ln]; omega, ?_⟩⟩
    rw [ln, show ((ms.length : Int) - 1).toNat = ms.length - 1 by omega]
    refine for_range (lo := 0) (fun i sg H' => ∃ v3 v4 v5 : Option V, sg = [some (.ref l), some (.int la), some (.ref f), v3, v4, v5] ∧ Same H H' ∧ PrsAt H' f (jmUp ms la i)) ⟨_, _, _, rfl, same_new nf, [], upd_same, .nil⟩ ?_ ?_
    · rintro i sg H1 hi ⟨v3, v4, v5, rfl, s1, p1⟩
      have ei : (0 : Int) + (i : Nat) = ((i : Nat) : Int) := by omega
      rw [ei]
      refine ⟨_, rfl, _, rfl, _, rfl, l, ms, i, la, rfl, s1 _ _ el, by omega, ?_⟩
      refine ⟨_, rfl, _, _, rfl, rfl, _, rfl, l, _, rfl, .inl (SqL.of (s1 _ _ el)), _, _, rfl, ?_⟩
      rw [ln, show ((ms.length : Int) - ((i : Int) + 1)).toNat = ms.length - (i + 1) by omega]
      show Exists _
      refine for_range (lo := (i : Int) + 1) (fun d sg H' => ∃ v5 : Option V, sg = [some (.ref l), some (.int la), some (.ref f), some (.int i), some (.int (lastJ ms la i)), v5] ∧ Same H H' ∧ PrsAt H' f (jmUp ms la i ++ jmRow ms la i d)) ⟨_, rfl, s1, by rw [show jmRow ms la i 0 = [] from rfl, List.append_nil]; exact p1⟩ ?_ ?_
      · rintro d sg H2 hd ⟨v5, rfl, s2, p2⟩
        have ed : ((i : Int) + 1) + (d : Nat) = ((i + 1 + d : Nat) : Int) := by omega
        rw [ed]
        obtain ⟨ts, ef, tp⟩ := id p2
        refine ⟨_, rfl, _, rfl, l, _, _, _, rfl, rfl, SqL.of (s2 _ _ el), atI_nat (j := i + 1 + d) (ms_vat (by omega)), _, rfl, _, _, rfl, rfl, _, rfl, ?_⟩
        by_cases c : ms.getD (i + 1 + d) 0 ≤ lastJ ms la i
        · refine iteTe (decide_eq_true c) ⟨_, rfl, .inl ⟨rfl, _, .inl (.inl ef)⟩, _, rfl, _, rfl, by show 2 ≤ sizeLine; decide, fun t nt => ?_⟩
          have g := same_new (o := .tup [.int (i : Int), .int ((i + 1 + d : Nat) : Int)]) nt
          have tf : t ≠ f := fun z => by rw [z, ef] at nt; cases nt
          have tl := tp.len
          have z1 := jmUp_len (ms := ms) (la := la) i
          have z2 := jmRow_len (ms := ms) (la := la) (i := i) (n := d)
          have z3 : i * ms.length ≤ 100 * 100 := Nat.mul_le_mul (by omega) n100
          rw [List.length_append] at tl
          refine ⟨f, _, _, rfl, rfl, g _ _ ef, by rw [List.length_map, sizeLine_eq]; omega, ?_⟩
          refine ⟨_, rfl, same_mut (s2.trans g) nf, ts ++ [t], by rw [upd_same, List.map_append]; rfl, ?_⟩
          rw [jmRow_yes c, ← List.append_assoc]
          refine TsAt.more (by rw [upd_ne tf]; exact upd_same) (tp.mono fun q o e => ?_)
          by_cases qf : q = f
          · subst qf
            rw [ef] at e
            cases Option.some.inj e
            exact .inr fun _ _ z => nomatch z
          · rw [upd_ne qf]; exact .inl (g _ _ e)
        · exact iteFe (decide_eq_false c) ⟨_, rfl, s2, by rw [jmRow_no c]; exact p2⟩
      · rintro sg H2 ⟨v5, rfl, s2, p2⟩
        exact ⟨_, _, _, rfl, s2, p2⟩
    · rintro sg H1 ⟨v3, v4, v5, rfl, s1, p1⟩
      exact ⟨_, rfl, k f H1 nf s1 p1⟩
theorem sc_jumps : FnScope ["plan", "fleet", "kind"] ["plan", "fleet", "kind"] (defScope s_jumps) := ⟨rfl, rfl, rfl, by decide +kernel, rfl, by decide +kernel, by decide +kernel⟩
theorem ok_jumps (D : DefK K mg "jumps" s_jumps) (PT : PTx K mg PC) (TF : K26F.FTx K mg FC) (G_check_roles : Cal P w K mg base (L2.CX P w) 3 "check_roles" (spChR C FC KC CU))
    (M_co : Met P w K mg base (L2.CX P w) 5 PC "contents_of" (spPOf K PC C CE fun e => .ref e.x)) (M_mos : Met P w K mg base CX0 1 PC "moments" (spPMoms PC C))
    (M_late : Met P w K mg base (L2.CX P w) 5 FC "lateness" (K26F.spLate K FC KC CU)) (G_jump_pairs : Cal P w K mg base CX0 2 "jump_pairs" spJmPairs) : Cal P w K mg base (L2.CX P w) 7 "jumps" (spJumps K PC C FC KC CU) := by
  refine D.calX sc_jumps (fun _ _ _ _ _ _ us hl => match us, hl with | [_, _, _], _ => rfl) (fun vs H Q E h => ?_) fun f0 cdv A outer s H vs Q E hr h => ?_
  · unfold spJumps at h; obtain ⟨p, es, f, ks, cl, y, e0, rfl, _⟩ := h; rfl
  · unfold spJumps at h; obtain ⟨p, es, f, ks, cl, y, e0, rfl, pl, fl, e00, k⟩ := h
    refine ⟨_, (pss_cons (ps_expr (pe_cS G_check_roles (takes_of rfl rfl rfl rfl) hr (by decide) rfl (pa_cons (pe_mS M_co PT.cl (takes_of rfl rfl rfl rfl) hr (by decide) (pv 0) (pa_cons pe_int pa_nil)) (pa_cons (pv 1) pa_nil))))
      (pss_one (ps_ret (pe_c G_jump_pairs hr (by decide) rfl (pa_cons (pe_mz M_mos PT.cl hr (by decide) (pv 0)) (pa_cons (pe_mS M_late TF.cl (takes_of rfl rfl rfl rfl) hr (by decide) (pv 1) (pa_cons (pv 2) pa_nil)) pa_nil)))))), ?_⟩
    obtain ⟨dxp, lp, ep, elp⟩ := id pl.ex
    obtain ⟨d, cc, fa⟩ := id fl.ex
    obtain ⟨dxf, ef⟩ := id fa.at_
    have he0 := List.mem_of_getElem? e00
    refine ⟨_, rfl, p, dxp, _, rfl, ep, get_eno _ (by decide +kernel), p, es, .int 0, rfl, pl, .inl ⟨0, e0, rfl, e00, ?_⟩⟩
    refine ⟨_, rfl, e0.x, e0.c, _, f, ks, cl, rfl, (pl.eds e0 he0).ct, fl, ?_⟩
    rcases k with ⟨z, ms, kx⟩ | ⟨ms, k⟩
    · exact .inr ⟨z, ms, fun d2 H' nd s2 ed => kx d2 H' nd s2 ed⟩
    refine .inl ⟨ms, fun H1 s1 => ?_⟩
    have mm : (es.map fun e => V.int e.m) = (mos es).map V.int := by unfold mos; rw [List.map_map]; rfl
    have lm : (mos es).length = es.length := by unfold mos; rw [List.length_map]
    refine ⟨_, rfl, p, dxp, _, rfl, s1 _ _ ep, get_eno _ (by decide +kernel), p, es, rfl, pl.same s1, fun l3 H3 n3 s3 e3 => ?_⟩
    have s13 := s1.trans s3
    refine ⟨_, rfl, f, dxf, _, rfl, s13 _ _ ef, K26F.get_fno _ _ (by decide +kernel) (by decide +kernel), _, rfl, f, d, cc, y, ks, _, rfl, fa.keep s13, fl.wd, fl.fed, ?_⟩
    rcases k with ⟨no, kx⟩ | ⟨z, rfl, mz, k⟩
    · exact .inr ⟨no.keep s13, fun d' H' nd ed s2 => kx d' H' (s13.free nd) (s13.trans s2) ed⟩
    refine .inl ⟨z, rfl, mz, fun H2 s2 => ?_⟩
    have n7 := pl.ok.n7
    have n1 := pl.ok.n1
    refine ⟨l3, mos es, _, rfl, by rw [← mm]; exact s2 _ _ e3, by rw [lm]; exact n1, by rw [lm]; omega, fun x H' nx sx rr => k x H' ((s13.trans s2).free nx) ((s13.trans s2).trans sx) rr⟩
end
theorem rng_split {n k : Nat} (h : k ≤ n) : List.range n = List.range k ++ (List.range (n - k)).map (k + ·) := by
  have z := List.range_add (n := k) (m := n - k)
  rw [show k + (n - k) = n by omega] at z
  exact z
theorem pairs_flat : ∀ n m : Nat, 0 < m → (List.range (n * m)).map (fun a => (((a / m : Nat) : Int), ((a % m : Nat) : Int))) = (List.range n).flatMap fun (i : Nat) => (List.range m).map fun (j : Nat) => ((i : Int), (j : Int))
  | 0, m, h => by rw [Nat.zero_mul]; rfl
  | n + 1, m, h => by
    rw [Nat.add_mul, Nat.one_mul, List.range_add, List.map_append, pairs_flat n m h, List.range_succ, List.flatMap_append]
    congr 1
    rw [List.map_map]
    show _ = (List.range m).map _ ++ []
    rw [List.append_nil]
    refine List.map_congr_left fun j hj => ?_
    have lt := List.mem_range.mp hj
    show ((((n * m + j) / m : Nat) : Int), (((n * m + j) % m : Nat) : Int)) = _
    rw [Nat.mul_comm n m, Nat.mul_add_div h, Nat.div_eq_of_lt lt, Nat.mul_add_mod, Nat.mod_eq_of_lt lt, Nat.add_zero]
def lawP (n : Nat) : List (Int × Int) := (List.range (n * n)).map fun a => (((a / n : Nat) : Int), ((a % n : Nat) : Int))
def lawQ (n : Nat) : List (Int × Int) := (lawP n).filter fun q => decide (q.1 < q.2)
def lawJ (ms : List Int) (la : Int) : List (Int × Int) := (lawQ ms.length).filter fun q => decide (ms.getD q.2.toNat 0 ≤ lastJ ms la q.1.toNat)
theorem jmUp_flat {ms : List Int} {la : Int} : ∀ n, jmUp ms la n = (List.range n).flatMap fun i => jmRow ms la i (ms.length - (i + 1))
  | 0 => rfl
  | n + 1 => by
    rw [List.range_succ, List.flatMap_append, ← jmUp_flat n]
    show jmUp ms la n ++ jmRow ms la n (ms.length - (n + 1)) = _ ++ (jmRow ms la n (ms.length - (n + 1)) ++ [])
    rw [List.append_nil]
theorem row_eq {ms : List Int} {la : Int} {i : Nat} (h : i < ms.length) : (((List.range ms.length).map fun (j : Nat) => ((i : Int), (j : Int))).filter fun q => decide (q.1 < q.2)).filter (fun q => decide (ms.getD q.2.toNat 0 ≤ lastJ ms la q.1.toNat)) = jmRow ms la i (ms.length - (i + 1)) := by
  rw [rng_split (show i + 1 ≤ ms.length by omega), List.map_append, List.filter_append]
  have e1 : ((List.range (i + 1)).map fun (j : Nat) => ((i : Int), (j : Int))).filter (fun q => decide (q.1 < q.2)) = [] := by
    rw [List.filter_eq_nil_iff]
    intro q hq
    obtain ⟨j, hj, rfl⟩ := List.mem_map.mp hq
    have := List.mem_range.mp hj
    simp; omega
  have e2 : (((List.range (ms.length - (i + 1))).map (i + 1 + ·)).map fun (j : Nat) => ((i : Int), (j : Int))).filter (fun q => decide (q.1 < q.2)) = ((List.range (ms.length - (i + 1))).map (i + 1 + ·)).map fun (j : Nat) => ((i : Int), (j : Int)) := by
    rw [List.filter_eq_self]
    intro q hq
    obtain ⟨j, hj, rfl⟩ := List.mem_map.mp hq
    obtain ⟨d, _, rfl⟩ := List.mem_map.mp hj
    simp; omega
  rw [e1, e2, List.nil_append, List.map_map, List.filter_map]
  unfold jmRow
  have len : (List.range (i + 1) ++ (List.range (ms.length - (i + 1))).map (i + 1 + ·)).length = ms.length := by simp; omega
  rfl
theorem lawJ_eq {ms : List Int} {la : Int} : lawJ ms la = jmps ms la := by
  unfold lawJ lawQ lawP jmps
  by_cases z : ms.length = 0
  · rw [z]; rfl
  rw [pairs_flat _ _ (by omega), List.filter_flatMap, List.filter_flatMap, jmUp_flat]
  obtain ⟨m, em⟩ : ∃ m, ms.length = m + 1 := ⟨ms.length - 1, by omega⟩
  have f : ∀ l : List Nat, (∀ i ∈ l, i < ms.length) → (l.flatMap fun (i : Nat) => List.filter (fun q => decide (ms.getD q.2.toNat 0 ≤ lastJ ms la q.1.toNat)) (List.filter (fun q => decide (q.1 < q.2)) ((List.range ms.length).map fun (j : Nat) => ((i : Int), (j : Int))))) = l.flatMap fun i => jmRow ms la i (ms.length - (i + 1)) := by
    intro l
    induction l with
    | nil => intro _; rfl
    | cons a l ih =>
      intro h
      rw [List.flatMap_cons, List.flatMap_cons, ih fun i hi => h i (List.mem_cons_of_mem _ hi), row_eq (h a (List.mem_cons_self ..))]
  rw [f _ fun i hi => List.mem_range.mp hi, em, List.range_succ, List.flatMap_append]
  have e : ([m].flatMap fun i => jmRow ms la i (m + 1 - (i + 1))) = [] := by
    show jmRow ms la m (m + 1 - (m + 1)) ++ [] = []
    rw [Nat.sub_self, List.append_nil]; rfl
  rw [e, List.append_nil]; rfl
end K26
namespace K26
open PySem PySem.Spec PyProof.Rows L2 Jg
local macro_rules | `(tactic| walk_at "rd1") => `(tactic| (first
  | refine ⟨_, rfl, ?_⟩
  | refine ⟨_, _, rfl, rfl, ?_⟩
  | refine ⟨_, _, rfl, ?_⟩
  | refine ⟨rfl, ?_⟩
  | (refine ⟨show (0 : Int) < _ by omega, ?_⟩)
  | (refine ⟨Or.inl ⟨by omega, by omega⟩, ?_⟩)
  | (refine ⟨Or.inr ⟨by omega, by omega⟩, ?_⟩)
  | (refine ⟨(⟨by decide, by decide, by decide⟩ : CPow _ _), ?_⟩)
  | refine Or.inl ⟨_, rfl, ?_⟩
  | refine Or.inr ⟨_, rfl, ?_⟩
  | fail "rd"))
local macro_rules | `(tactic| walk_at "rd") => `(tactic| repeat' walk_at "rd1")
open K26C (Td TdAt TdsAt spVou vouB)
def spPairs : Sp := fun vs H Q _ => ∃ n : Nat, vs = [.int n] ∧ 1 ≤ n ∧ n ≤ 7 ∧ ∀ l H', H l = none → Same H H' → PrsAt H' l (lawP n) → Q (.ref l) H'
@[irreducible] def spLJ : Sp := fun vs H Q _ => ∃ l ms la, vs = [.ref l, .int la] ∧ H l = some (.lst (ms.map V.int)) ∧ 1 ≤ ms.length ∧ ms.length ≤ 7 ∧ ∀ r H', H r = none → Same H H' → PrsAt H' r (jmps ms la) → Q (.ref r) H'
theorem lawP_mem {n : Nat} {q : Int × Int} (h : q ∈ lawP n) (n1 : 1 ≤ n) : ∃ i j : Nat, q = ((i : Int), (j : Int)) ∧ i < n ∧ j < n := by
  obtain ⟨a, ha, rfl⟩ := List.mem_map.mp h
  have lt := List.mem_range.mp ha
  exact ⟨a / n, a % n, rfl, Nat.div_lt_of_lt_mul lt, Nat.mod_lt _ (by omega)⟩
theorem fil_app {α : Type} {ts : List α} {i : Nat} {q : α} {p : α → Bool} (h : ts[i]? = some q) : (ts.take (i + 1)).filter p = (ts.take i).filter p ++ (if p q = true then [q] else []) := by
  rw [List.take_succ, h, List.filter_append]
  congr 1
  show List.filter p [q] = _
  rw [List.filter_cons, List.filter_nil]
section
variable {P : Program} {w : World} {K : PySem.W.Frag} {mg : Str → Option Value} {base : Heap}
theorem sc_law_pairs : FnScope ["count", "at"] ["count"] (defScope s_law_pairs) := ⟨rfl, rfl, rfl, by decide +kernel, rfl, by decide +kernel, by decide +kernel⟩
theorem ok_lpairs (D : DefK K mg "_law_pairs" s_law_pairs) (T : TxP K mg) : Cal P w K mg base CX0 1 "_law_pairs" spPairs := by
  refine D.cal sc_law_pairs (fun _ _ _ _ _ _ us hl => match us, hl with | [_], _ => rfl) (fun vs H Q E h => ?_) fun f0 cdv A outer s H vs Q E hr h => ?_
  · obtain ⟨n, rfl, _⟩ := h; rfl
  · obtain ⟨n, rfl, n1, n7, k⟩ := h
    refine ⟨_, (pss_one (ps_ret (pe_lc (own := [("at", 1)]) (g := gName 1) (by rfl) sc_law_pairs.nd (pi_range1 (by rfl) T.b_range (pa_cons (pe_op op_mul (pv 0) (pv 0)) pa_nil)) (blkOk_by (own := [("at", 1)]) (N := ["count", "at"]) (sc := defScope s_law_pairs) (by decide +kernel)) (fun _ _ _ _ _ => pg_name (i := 1) sc_law_pairs.nd rfl (Or.inl rfl)) (fun _ _ _ _ _ => pts_nil) (fun _ _ _ _ _ => (pe_tup (pa_cons (pe_op op_fdiv (pv 1) (pv 0)) (pa_cons (pe_op op_mod (pv 1) (pv 0)) pa_nil))))))), ?_⟩
    have nn : n * n ≤ 7 * 7 := Nat.mul_le_mul n7 n7
    have en : (n : Int) * (n : Int) = ((n * n : Nat) : Int) := by rw [Int.natCast_mul]
    refine ⟨_, rfl, _, rfl, _, _, rfl, rfl, .inl ⟨by omega, by omega⟩, _, rfl, by omega, by omega, fun D nD => ?_⟩
    rw [en, Int.toNat_natCast]
    refine lc_range (lo := 0) (n := n * n) (fun i H' => PrsAt H' D ((List.range i).map fun a => (((a / n : Nat) : Int), ((a % n : Nat) : Int))) ∧ Same H H') ⟨⟨[], upd_same, .nil⟩, same_new nD⟩ ?_ ?_
    · rintro i H' hi ⟨tD, s'⟩
      obtain ⟨uD, eD, tD⟩ := tD
      have ul := tD.len
      rw [List.length_map, List.length_range] at ul
      rw [Int.zero_add]
      refine ⟨rfl, K26C.yes_if ?_⟩
      refine ⟨_, rfl, _, rfl, _, _, rfl, rfl, ⟨by omega, by omega⟩, _, rfl, _, rfl, _, _, rfl, rfl, by omega, by show 2 ≤ sizeLine; decide, fun t2 n2 => ?_⟩
      have g2 := same_new (o := .tup [.int ((i : Int) / (n : Int)), .int ((i : Int) % (n : Int))]) n2
      refine ⟨_, g2 _ _ eD, by rw [List.length_map, sizeLine_eq]; omega, ?_, same_mut (s'.trans g2) nD⟩
      rw [List.range_succ, List.map_append]
      exact PrsAt.push (g2 _ _ eD) (tD.same g2) upd_same
    · rintro H' ⟨tD, s'⟩
      exact k D H' nD s' tD
theorem sc_law_jumps : FnScope ["moments", "slow", "count", "pairs", "early", "later"] ["moments", "slow"] (defScope s_law_jumps) := ⟨rfl, rfl, rfl, by decide +kernel, rfl, by decide +kernel, by decide +kernel⟩
theorem ok_ljumps (D : DefK K mg "_law_jumps" s_law_jumps) (T : TxP K mg) (G_law_pairs : Cal P w K mg base CX0 1 "_law_pairs" spPairs) : Cal P w K mg base CX0 2 "_law_jumps" spLJ := by
  refine D.cal sc_law_jumps (fun _ _ _ _ _ _ us hl => match us, hl with | [_, _], _ => rfl) (fun vs H Q E h => ?_) fun f0 cdv A outer s H vs Q E hr h => ?_
  · unfold spLJ at h; obtain ⟨l, ms, la, rfl, _⟩ := h; rfl
  · unfold spLJ at h; obtain ⟨l, ms, la, rfl, el, m1, m7, k⟩ := h
    refine ⟨_, (pss_cons (ps_set (i := 2) sc_law_jumps.nd rfl (Or.inl rfl) (pe_callB call_len_seq (by rfl) T.b_len (by decide +kernel) (pa_cons (pv 0) pa_nil)))
      (pss_cons (ps_setLc (i := 3) (own := [("early", 4), ("later", 5)]) (g := gTup K 2 (gCons (gName 4) (gCons (gName 5) gNil))) (by rfl) sc_law_jumps.nd rfl rfl (sw_true rfl rfl rfl (by decide +kernel)) (pi_list (pe_c G_law_pairs hr (by decide) rfl (pa_cons (pv 2) pa_nil))) (blkOk_by (own := [("early", 4), ("later", 5)]) (N := ["moments", "slow", "count", "pairs", "early", "later"]) (sc := defScope s_law_jumps) (by decide +kernel)) (fun _ _ _ _ _ => pg_tup rfl (pgs_cons (pg_name (i := 4) sc_law_jumps.nd rfl (Or.inl rfl)) (pgs_cons (pg_name (i := 5) sc_law_jumps.nd rfl (Or.inl rfl)) pgs_nil))) (fun _ _ _ _ _ => (pts_one (pt_cmpR op_lt (pv 4) (pv 5) (nomark _)))) (fun _ _ _ _ _ => (pe_tup (pa_cons (pv 4) (pa_cons (pv 5) pa_nil)))))
      (pss_one (ps_ret (pe_lc (own := [("early", 4), ("later", 5)]) (g := gTup K 2 (gCons (gName 4) (gCons (gName 5) gNil))) (by rfl) sc_law_jumps.nd (pi_list (pv 3)) (blkOk_by (own := [("early", 4), ("later", 5)]) (N := ["moments", "slow", "count", "pairs", "early", "later"]) (sc := defScope s_law_jumps) (by decide +kernel)) (fun _ _ _ _ _ => pg_tup rfl (pgs_cons (pg_name (i := 4) sc_law_jumps.nd rfl (Or.inl rfl)) (pgs_cons (pg_name (i := 5) sc_law_jumps.nd rfl (Or.inl rfl)) pgs_nil))) (fun _ _ _ _ _ => (pts_one (pt_cmpR op_le (pe_ix (r := rIxL K) ix_list (pv 0) (pv 5) (fun _ _ => rfl)) (pe_op op_sub (pe_op op_add (pe_ix (r := rIxL K) ix_list (pv 0) (pe_op op_add (pv 4) pe_int) (fun _ _ => rfl)) (pv 1)) pe_int) (nomark _)))) (fun _ _ _ _ _ => (pe_tup (pa_cons (pv 4) (pa_cons (pv 5) pa_nil))))))))), ?_⟩
    have ln : (ms.map V.int).length = ms.length := List.length_map ..
    refine ⟨_, rfl, l, _, rfl, .inl (SqL.of el), ?_⟩
    refine ⟨_, rfl, ms.length, by rw [ln]; rfl, m1, m7, fun lp H1 np s1 pp => ?_⟩
    obtain ⟨us, ep, tp⟩ := pp
    have nn : ms.length * ms.length ≤ 7 * 7 := Nat.mul_le_mul m7 m7
    have lpn : (lawP ms.length).length = ms.length * ms.length := by unfold lawP; rw [List.length_map, List.length_range]
    refine ⟨lp, rfl, ⟨_, SqL.of ep⟩, fun D nD => ?_⟩
    refine lc_list (K := K) (a := lp) (xs := us.map V.ref) (fun j H' => PrsAt H' D (((lawP ms.length).take j).filter fun q => decide (q.1 < q.2)) ∧ Same H1 H') ⟨⟨[], upd_same, .nil⟩, same_new nD⟩ (fun j H' _ ⟨_, s'⟩ => SqL.of (s' _ _ ep)) ?_ ?_
    · rintro j y H' hj ⟨tD, s'⟩
      obtain ⟨t, ht, rfl⟩ : ∃ t, us[j]? = some t ∧ y = .ref t := by
        rw [List.getElem?_map] at hj
        cases c : us[j]? with
        | none => rw [c] at hj; cases hj
        | some t => rw [c] at hj; exact ⟨t, rfl, (Option.some.inj hj).symm⟩
      obtain ⟨q, hq, et⟩ := tp.at_ ht
      have jl := (List.getElem?_eq_some_iff.mp hq).1
      obtain ⟨uD, eD, tD⟩ := tD
      have ul := tD.len
      have fl8 := List.length_filter_le (fun q : Int × Int => decide (q.1 < q.2)) ((lawP ms.length).take j)
      rw [List.length_take] at fl8
      have fa := fil_app (p := fun q : Int × Int => decide (q.1 < q.2)) hq
      refine ⟨t, _, rfl, SqT.of (s' _ _ et), rfl, _, _, rfl, _, _, rfl, rfl, rfl, ?_⟩
      refine ⟨_, rfl, _, rfl, _, _, rfl, rfl, _, rfl, ?_⟩
      by_cases c : q.1 < q.2
      · rw [decide_eq_true c, if_pos rfl] at fa
        refine iteTe (decide_eq_true c) ⟨_, rfl, _, rfl, by show 2 ≤ sizeLine; decide, fun t2 n2 => ?_⟩
        have g2 := same_new (o := .tup [.int q.1, .int q.2]) n2
        refine ⟨_, g2 _ _ eD, by rw [List.length_map, sizeLine_eq]; omega, ?_, same_mut (s'.trans g2) nD⟩
        rw [fa]
        exact PrsAt.push (g2 _ _ eD) (tD.same g2) upd_same
      · rw [decide_eq_false c] at fa
        have fa2 : ((lawP ms.length).take (j + 1)).filter (fun q : Int × Int => decide (q.1 < q.2)) = ((lawP ms.length).take j).filter (fun q : Int × Int => decide (q.1 < q.2)) := by rw [fa]; exact List.append_nil _
        refine iteFe (decide_eq_false c) ⟨?_, s'⟩
        rw [fa2]
        exact ⟨uD, eD, tD⟩
    · rintro H2 ⟨tD, s2⟩
      rw [List.length_map, tp.len, List.take_length] at tD
      have tD : PrsAt H2 D (lawQ ms.length) := tD
      obtain ⟨us2, eD, tq⟩ := tD
      have s12 := s1.trans s2
      have lq : (lawQ ms.length).length ≤ ms.length * ms.length := by rw [← lpn]; exact List.length_filter_le _ _
      refine ⟨_, rfl, D, rfl, ⟨_, SqL.of eD⟩, fun D2 nD2 => ?_⟩
      refine lc_list (K := K) (a := D) (xs := us2.map V.ref) (fun j H' => PrsAt H' D2 (((lawQ ms.length).take j).filter fun q => decide (ms.getD q.2.toNat 0 ≤ lastJ ms la q.1.toNat)) ∧ Same H2 H') ⟨⟨[], upd_same, .nil⟩, same_new nD2⟩ (fun j H' _ ⟨_, s'⟩ => SqL.of (s' _ _ eD)) ?_ ?_
      · rintro j y H' hj ⟨tD, s'⟩
        obtain ⟨t, ht, rfl⟩ : ∃ t, us2[j]? = some t ∧ y = .ref t := by
          rw [List.getElem?_map] at hj
          cases c : us2[j]? with
          | none => rw [c] at hj; cases hj
          | some t => rw [c] at hj; exact ⟨t, rfl, (Option.some.inj hj).symm⟩
        obtain ⟨q, hq, et⟩ := tq.at_ ht
        have jl := (List.getElem?_eq_some_iff.mp hq).1
        have mq := List.mem_filter.mp (List.mem_of_getElem? hq)
        obtain ⟨m, n, rfl, lm, ln2⟩ := lawP_mem mq.1 m1
        have lt : m < n := by have := of_decide_eq_true mq.2; omega
        obtain ⟨uE, eE, tE⟩ := tD
        have ul := tE.len
        have fl8 := List.length_filter_le (fun q : Int × Int => decide (ms.getD q.2.toNat 0 ≤ lastJ ms la q.1.toNat)) ((lawQ ms.length).take j)
        rw [List.length_take] at fl8
        have fa := fil_app (p := fun q : Int × Int => decide (ms.getD q.2.toNat 0 ≤ lastJ ms la q.1.toNat)) hq
        have el' := s' _ _ (s2 _ _ (s1 _ _ el))
        refine ⟨t, _, rfl, SqT.of (s' _ _ et), rfl, _, _, rfl, _, _, rfl, rfl, rfl, ?_⟩
        refine ⟨_, rfl, _, rfl, l, _, _, _, rfl, rfl, SqL.of el', atI_nat (j := n) (ms_vat ln2), _, rfl, _, rfl, _, _, rfl, rfl, l, _, _, _, rfl, rfl, SqL.of el', atI_nat (j := m + 1) (ms_vat (by omega)), _, rfl, _, _, rfl, rfl, _, _, rfl, rfl, _, _, rfl, rfl, _, rfl, ?_⟩
        by_cases c : ms.getD n 0 ≤ lastJ ms la m
        · have fa2 : ((lawQ ms.length).take (j + 1)).filter (fun q : Int × Int => decide (ms.getD q.2.toNat 0 ≤ lastJ ms la q.1.toNat)) = ((lawQ ms.length).take j).filter (fun q : Int × Int => decide (ms.getD q.2.toNat 0 ≤ lastJ ms la q.1.toNat)) ++ [((m : Int), (n : Int))] := by
            rw [fa, if_pos (decide_eq_true (show ms.getD ((n : Int).toNat) 0 ≤ lastJ ms la ((m : Int).toNat) from c))]
          refine iteTe (decide_eq_true c) ⟨_, rfl, _, rfl, by show 2 ≤ sizeLine; decide, fun t2 n2 => ?_⟩
          have g2 := same_new (o := .tup [.int (m : Int), .int (n : Int)]) n2
          refine ⟨_, g2 _ _ eE, by rw [List.length_map, sizeLine_eq]; omega, ?_, same_mut (s'.trans g2) nD2⟩
          rw [fa2]
          exact PrsAt.push (g2 _ _ eE) (tE.same g2) upd_same
        · have fa2 : ((lawQ ms.length).take (j + 1)).filter (fun q : Int × Int => decide (ms.getD q.2.toNat 0 ≤ lastJ ms la q.1.toNat)) = ((lawQ ms.length).take j).filter (fun q : Int × Int => decide (ms.getD q.2.toNat 0 ≤ lastJ ms la q.1.toNat)) := by
            rw [fa, if_neg (by rw [decide_eq_false (show ¬ (ms.getD ((n : Int).toNat) 0 ≤ lastJ ms la ((m : Int).toNat)) from c)]; decide), List.append_nil]
          refine iteFe (decide_eq_false c) ⟨?_, s'⟩
          rw [fa2]
          exact ⟨uE, eE, tE⟩
      · rintro H3 ⟨tE, s3⟩
        rw [List.length_map, tq.len, List.take_length] at tE
        have e : (lawQ ms.length).filter (fun q : Int × Int => decide (ms.getD q.2.toNat 0 ≤ lastJ ms la q.1.toNat)) = jmps ms la := lawJ_eq
        rw [e] at tE
        exact k D2 H3 (s12.free nD2) (s12.trans s3) tE
end
end K26
namespace K26
open PySem PySem.Spec PyProof.Rows L2 Jg
local macro_rules | `(tactic| walk_at "rd1") => `(tactic| (first
  | refine ⟨_, rfl, ?_⟩
  | refine ⟨_, _, rfl, rfl, ?_⟩
  | refine ⟨_, _, rfl, ?_⟩
  | refine ⟨rfl, ?_⟩
  | (refine ⟨show (0 : Int) < _ by omega, ?_⟩)
  | (refine ⟨Or.inl ⟨by omega, by omega⟩, ?_⟩)
  | (refine ⟨Or.inr ⟨by omega, by omega⟩, ?_⟩)
  | (refine ⟨(⟨by decide, by decide, by decide⟩ : CPow _ _), ?_⟩)
  | refine Or.inl ⟨_, rfl, ?_⟩
  | refine Or.inr ⟨_, rfl, ?_⟩
  | fail "rd"))
local macro_rules | `(tactic| walk_at "rd") => `(tactic| repeat' walk_at "rd1")
open K26C (TdAt Td spVou vouB sgT)
@[irreducible] def spMach : Sp := fun vs H Q _ => ∃ (lk lm lf : Addr) (tv : V) (kr : List KRow) (ms : List Int) (qs : List Plr) (mc : Mac) (num : Int) (u : Option Pull), vs = [.ref lk, .ref lm, tv, .ref lf, .ref mc.t] ∧ H lk = some (.lst (kr.map fun k => V.ref k.t)) ∧ (∀ k ∈ kr, KrAt H k) ∧ KrOk kr ∧ kr.length ≤ 100 ∧ H lm = some (.lst (ms.map V.int)) ∧ 1 ≤ ms.length ∧ ms.length ≤ 100 ∧ H lf = some (.lst (qs.map Plr.v)) ∧ (∀ q ∈ qs, PlrAt H q) ∧ MacU H mc u ∧ Fits kr ms (qs.map Plr.w) mc.w num ∧
  ((u = none ∧ ∀ (q : Plr) (H' : Hp), H q.t = none → Same H H' → PlrAt H' q → q.w = toP kr num mc.w → Q (.ref q.t) H') ∨
   ∃ (pm : Int) (pw : Option Int) (n1 n2 : Nat) (lt a1 a2 : Addr) (tq : List Addr) (d1 d2 : Td), u = some (pm, pw) ∧ num = (n1 : Int) ∧ Fits kr ms (qs.map Plr.w) (mc.z, pm, orgO pw) (n2 : Int) ∧ mc.b < pm ∧ pm ≤ mc.b + gZ kr mc.z ∧ n1 < n2 ∧ tv = .ref lt ∧ H lt = some (.lst (tq.map V.ref)) ∧ tq[n1]? = some a1 ∧ tq[n2]? = some a2 ∧ TdAt H a1 d1 ∧ TdAt H a2 d2 ∧ (sgT d2).length ≤ 500 ∧
    ∀ (t ls : Addr) (H' : Hp), H t = none → H ls = none → Same H H' → LaAt H' t ls mc.z mc.b (n1 : Int) pm (n2 : Int) (gZ kr mc.z) (vouB d1 d2) → Q (.ref t) H')
theorem w_at {qs : List Plr} {i : Nat} {e : PW} (h : (qs.map Plr.w)[i]? = some e) : ∃ q, qs[i]? = some q ∧ q.w = e := by
  rw [List.getElem?_map] at h
  cases c : qs[i]? with
  | none => rw [c] at h; cases h
  | some q => rw [c] at h; exact ⟨q, rfl, Option.some.inj h⟩
section
variable {P : Program} {w : World} {K : PySem.W.Frag} {mg : Str → Option Value} {base : Heap}
theorem sc_law_machine : FnScope ["kinds", "moments", "tolds", "elder", "machine", "is_copy", "ready", "name", "begun", "origin", "pulls", "span_v", "aged", "feeder", "number", "steps", "last", "locked", "moment", "where", "read", "one"] ["kinds", "moments", "tolds", "elder", "machine"] (defScope s_law_machine) := ⟨rfl, rfl, rfl, by decide +kernel, rfl, by decide +kernel, by decide +kernel⟩
theorem ok_mach (D : DefK K mg "_law_machine" s_law_machine) (T : TxP K mg) (G_law_reading : Cal P w K mg base CX0 2 "_law_reading" (spRead K)) (G_law_copy : Cal P w K mg base CX0 2 "_law_copy" spCpy) (G_law_vouched : Cal P w K mg base CX0 1 "_law_vouched" (spVou K)) : Cal P w K mg base CX0 3 "_law_machine" spMach := by
  refine D.cal sc_law_machine (fun _ _ _ _ _ _ us hl => match us, hl with | [_, _, _, _, _], _ => rfl) (fun vs H Q E h => ?_) fun f cdv A outer s H vs Q E hr h => ?_
  · unfold spMach at h; obtain ⟨lk, lm, lf, tv, kr, ms, qs, mc, num, u, rfl, _⟩ := h; rfl
  · unfold spMach at h; obtain ⟨lk, lm, lf, tv, kr, ms, qs, mc, num, u, rfl, ek, krA, ko, kn, em, m1, m9, ef, af, am, fi, k⟩ := h
    refine ⟨_, (C8.pss_cut (ps_asg (pv 4) (pg_tup rfl (pgs_cons (pg_name (i := 7) sc_law_machine.nd rfl (Or.inr rfl)) (pgs_cons (pg_name (i := 8) sc_law_machine.nd rfl (Or.inl rfl)) (pgs_cons (pg_name (i := 9) sc_law_machine.nd rfl (Or.inl rfl)) (pgs_cons (pg_name (i := 10) sc_law_machine.nd rfl (Or.inl rfl)) pgs_nil))))))
      (C8.pss_cut (ps_asg (pe_ix (r := rIxL K) ix_list (pe_lc (own := [("one", 21)]) (g := gName 21) (by rfl) sc_law_machine.nd (pi_list (pv 0)) (blkOk_by (own := [("one", 21)]) (N := ["kinds", "moments", "tolds", "elder", "machine", "is_copy", "ready", "name", "begun", "origin", "pulls", "span_v", "aged", "feeder", "number", "steps", "last", "locked", "moment", "where", "read", "one"]) (sc := defScope s_law_machine) (by decide +kernel)) (fun _ _ _ _ _ => pg_name (i := 21) sc_law_machine.nd rfl (Or.inl rfl)) (fun _ _ _ _ _ => (pts_one (pt_cmpR op_eq (pe_ix (r := rIxT K) ix_tup (pv 21) pe_int (fun _ _ => rfl)) (pv 7) (nomark _)))) (fun _ _ _ _ _ => (pe_slice (r := rSlT K) sl_tup (pv 21) (po_some pe_int) po_none))) pe_int (fun _ _ => rfl)) (pg_tup rfl (pgs_cons (pg_name (i := 11) sc_law_machine.nd rfl (Or.inl rfl)) (pgs_cons (pg_name (i := 12) sc_law_machine.nd rfl (Or.inl rfl)) (pgs_cons (pg_name (i := 13) sc_law_machine.nd rfl (Or.inl rfl)) pgs_nil)))))
      (C8.pss_cut (ps_set (i := 5) sc_law_machine.nd rfl (Or.inl rfl) (pe_callB call_isi (by rfl) T.b_isinstance (by decide +kernel) (pa_cons (pv 9) (pa_cons (pe_ty (n := "tuple") (by rfl) T.b_tuple (by decide +kernel)) pa_nil))))
      (C8.pss_cut (ps_if (pt_val (pv 5)) (pss_one (ps_set (i := 14) sc_law_machine.nd rfl (Or.inl rfl) (pe_c G_law_copy hr (by decide) rfl (pa_cons (pv 3) (pa_cons (pv 7) (pa_cons (pv 12) (pa_cons (pv 9) (pa_cons (pv 8) pa_nil)))))))) (pss_one (ps_set (i := 14) sc_law_machine.nd rfl (Or.inl rfl) (pe_c G_law_reading hr (by decide) rfl (pa_cons (pv 1) (pa_cons (pv 3) (pa_cons (pv 13) (pa_cons (pv 9) (pa_cons (pv 8) pa_nil)))))))))
      (C8.pss_cut (ps_if (pt_cmpR op_isN (pv 14) pe_non (nomark _)) (pss_one (ps_ret pe_non)) pss_nil)
      (C8.pss_cut (ps_par3 (i := 15) (j := 16) (l := 17) (by rfl) sc_law_machine.nd rfl rfl rfl (by decide) (by decide) (by decide) rfl rfl rfl (pa_cons (pe_lst (pa_cons (pe_tup (pa_cons (pv 8) (pa_cons (pv 14) pa_nil))) pa_nil)) (pa_cons (pv 8) (pa_cons pe_non pa_nil))) (by rfl))
      (C8.pss_cut (ps_for PassesOwn.never rfl (pi_tup (pv 10)) (pg_tup rfl (pgs_cons (pg_name (i := 18) sc_law_machine.nd rfl (Or.inl rfl)) (pgs_cons (pg_name (i := 19) sc_law_machine.nd rfl (Or.inl rfl)) pgs_nil))) (pss_cons (ps_set (i := 20) sc_law_machine.nd rfl (Or.inl rfl) (pe_c G_law_reading hr (by decide) rfl (pa_cons (pv 1) (pa_cons (pv 3) (pa_cons (pv 13) (pa_cons (pv 19) (pa_cons (pv 18) pa_nil)))))))
      (pss_cons (ps_if (PW.pt (pw_or (pt_cmpR op_isN (pv 20) pe_non (nomark _)) (pw_or1 (pt_not (pt_chain op_lt op_le (pv 16) (pv 18) (pe_op op_add (pv 16) (pv 11))))))) (pss_one (ps_ret pe_non)) pss_nil)
      (pss_cons (ps_if (PW.pt (pw_and (pt_cmpR op_isN (pv 17) pe_non (nomark _)) (pw_and1 (pt_cmpR op_gt (pv 20) (pe_ix (r := rIxT K) ix_tup (pe_ix (r := rIxL K) ix_list (pv 15) (pe_un un_neg pe_int) (fun _ _ => rfl)) pe_int (fun _ _ => rfl)) (nomark _))))) (pss_one (ps_if (pt_val (pe_c G_law_vouched hr (by decide) rfl (pa_cons (pe_ix (r := rIxL K) ix_list (pv 2) (pe_ix (r := rIxT K) ix_tup (pe_ix (r := rIxL K) ix_list (pv 15) (pe_un un_neg pe_int) (fun _ _ => rfl)) pe_int (fun _ _ => rfl)) (fun _ _ => rfl)) (pa_cons (pe_ix (r := rIxL K) ix_list (pv 2) (pv 20) (fun _ _ => rfl)) pa_nil)))) (pss_one (ps_expr (pe_bm F.plainAttrs_list F.slot_list_append F.type_list_append mt_append (pv 15) (pa_cons (pe_tup (pa_cons (pv 18) (pa_cons (pv 20) pa_nil))) pa_nil)))) (pss_one (ps_set (i := 17) sc_law_machine.nd rfl (Or.inl rfl) (pe_tup (pa_cons (pv 18) (pa_cons (pe_ix (r := rIxT K) ix_tup (pe_ix (r := rIxL K) ix_list (pv 15) (pe_un un_neg pe_int) (fun _ _ => rfl)) pe_int (fun _ _ => rfl)) (pa_cons (pv 20) pa_nil)))))))) pss_nil)
      (pss_one (ps_set (i := 16) sc_law_machine.nd rfl (Or.inl rfl) (pv 18)))))))
      (C8.pss_cut (ps_set (i := 6) sc_law_machine.nd rfl (Or.inl rfl) (pe_ifExp (pt_not (pt_val (pv 5))) (pv 8) (pe_ix (r := rIxL K) ix_list (pe_op op_cat (pe_lc (own := [("one", 21)]) (g := gName 21) (by rfl) sc_law_machine.nd (pi_tup (pv 10)) (blkOk_by (own := [("one", 21)]) (N := ["kinds", "moments", "tolds", "elder", "machine", "is_copy", "ready", "name", "begun", "origin", "pulls", "span_v", "aged", "feeder", "number", "steps", "last", "locked", "moment", "where", "read", "one"]) (sc := defScope s_law_machine) (by decide +kernel)) (fun _ _ _ _ _ => pg_name (i := 21) sc_law_machine.nd rfl (Or.inl rfl)) (fun _ _ _ _ _ => pts_nil) (fun _ _ _ _ _ => (pe_ix (r := rIxT K) ix_tup (pv 21) pe_int (fun _ _ => rfl)))) (pe_lst (pa_cons pe_non pa_nil))) pe_int (fun _ _ => rfl))))
      (pss_one (ps_ret (pe_tup (pa_cons (pv 7) (pa_cons (pv 15) (pa_cons (pe_op op_sub (pe_op op_add (pv 16) (pv 11)) pe_int) (pa_cons (pv 17) (pa_cons (pv 6) pa_nil)))))))))))))))), ?_⟩
    obtain ⟨ov, lp, e1, eo, e3⟩ := am.ex
    obtain ⟨j0, k0, hk0, kz, fi⟩ := fi
    have kz : k0.z = mc.z := kz
    refine ⟨fun σ' H' => σ' = [some (.ref lk), some (.ref lm), some tv, some (.ref lf), some (.ref mc.t), none, none, some (.str mc.z), some (.int mc.b), some ov, some (.ref lp), none, none, none, none, none, none, none, none, none, none, none] ∧ H' = H, ?_, ?_⟩
    · exact ⟨_, rfl, mc.t, _, rfl, SqT.of e1, rfl, _, _, rfl, _, _, rfl, _, _, rfl, _, _, rfl, rfl, rfl, rfl⟩
    rintro _ HX ⟨rfl, eHX⟩
    rw [eHX]
    clear eHX HX
    refine ⟨fun σ' H' => σ' = [some (.ref lk), some (.ref lm), some tv, some (.ref lf), some (.ref mc.t), none, none, some (.str mc.z), some (.int mc.b), some ov, some (.ref lp), some (.int k0.r.g), some (K26F.oV k0.r.a), some (K26F.sV k0.r.s), none, none, none, none, none, none, none, none] ∧ Same H H', ?_, ?_⟩
    · refine ⟨_, rfl, lk, rfl, ⟨_, SqL.of ek⟩, fun D nD => ?_⟩
      refine lc_list (K := K) (a := lk) (xs := kr.map fun k => V.ref k.t) (fun i H' => Same H H' ∧ ((i ≤ j0 ∧ H' D = some (.lst [])) ∨ (j0 < i ∧ ∃ T, H' D = some (.lst [.ref T]) ∧ H' T = some (.tup [.int k0.r.g, K26F.oV k0.r.a, K26F.sV k0.r.s])))) ⟨same_new nD, .inl ⟨Nat.zero_le _, upd_same⟩⟩ (fun i H' _ ⟨s', _⟩ => SqL.of (s' _ _ ek)) ?_ ?_
      · rintro i y H' hy ⟨s', iv⟩
        obtain ⟨kk, hk, rfl⟩ := kr_at hy
        have et := s' _ _ (krA kk (List.mem_of_getElem? hk))
        refine ⟨rfl, _, rfl, kk.t, _, _, _, rfl, rfl, SqT.of et, atI_nat (j := 0) rfl, _, rfl, rfl, _, rfl, ?_⟩
        by_cases c : kk.z = mc.z
        · have ii : i = j0 := by
            obtain ⟨l1, q1⟩ := List.getElem?_eq_some_iff.mp hk
            obtain ⟨l2, q2⟩ := List.getElem?_eq_some_iff.mp hk0
            have k1 : (kr.map (·.z))[i]'(by rw [List.length_map]; exact l1) = k0.z := by rw [List.getElem_map, q1, kz]; exact c
            have k2 : (kr.map (·.z))[j0]'(by rw [List.length_map]; exact l2) = k0.z := by rw [List.getElem_map, q2]
            exact (List.getElem_inj ko.nd (h₀ := by rw [List.length_map]; exact l1) (h₁ := by rw [List.length_map]; exact l2)).mp (k1.trans k2.symm)
          subst ii
          rw [hk0] at hk
          cases Option.some.inj hk
          refine iteTe (decide_eq_true (by rw [c])) ⟨_, rfl, 1, rfl, k0.t, _, rfl, SqT.of et, fun h => absurd h.1 (show ¬ HT.sIx 4 0 (some 1) = 0 by decide +kernel), fun p np => ?_⟩
          rcases iv with ⟨_, eD⟩ | ⟨lt, _⟩
          · have g1 := same_new (o := .tup (cutV [.str k0.z, .int k0.r.g, K26F.oV k0.r.a, K26F.sV k0.r.s] (some 1) none)) np
            have pD : p ≠ D := fun q => by rw [q, eD] at np; cases np
            refine ⟨[], g1 _ _ eD, by rw [sizeLine_eq]; show 0 < _; omega, same_mut (s'.trans g1) nD, .inr ⟨Nat.lt_succ_self _, p, upd_same, ?_⟩⟩
            rw [upd_ne pD, upd_same]; rfl
          · exact absurd lt (Nat.lt_irrefl _)
        · refine iteFe (decide_eq_false fun e => c (V.str.inj e)) ⟨s', ?_⟩
          have ne : i ≠ j0 := fun e => by rw [e, hk0] at hk; cases Option.some.inj hk; exact c kz
          rcases iv with ⟨le, eD⟩ | ⟨lt, r⟩
          · exact .inl ⟨by omega, eD⟩
          · exact .inr ⟨by omega, r⟩
      · rintro H' ⟨s', iv⟩
        have il := (List.getElem?_eq_some_iff.mp hk0).1
        rcases iv with ⟨le, _⟩ | ⟨_, T, eD, eT⟩
        · rw [List.length_map] at le; omega
        exact ⟨D, _, _, _, rfl, rfl, SqL.of eD, atI_nat (j := 0) rfl, T, _, rfl, SqT.of eT, rfl, _, _, rfl, _, _, rfl, _, _, rfl, rfl, rfl, s'⟩
    rintro _ H1 ⟨rfl, s1⟩
    refine ⟨fun σ' H' => ∃ cp : Bool, σ' = [some (.ref lk), some (.ref lm), some tv, some (.ref lf), some (.ref mc.t), some (.bl cp), none, some (.str mc.z), some (.int mc.b), some ov, some (.ref lp), some (.int k0.r.g), some (K26F.oV k0.r.a), some (K26F.sV k0.r.s), none, none, none, none, none, none, none, none] ∧ cp = (match mc.o with | .cp _ _ => true | _ => false) ∧ H' = H1, ?_, ?_⟩
    · cases ho : mc.o with
      | non =>
        rw [ho] at eo
        cases eo
        exact ⟨_, rfl, .non, .ty "tuple", _, _, false, rfl, .ty "tuple", .base .non, kit_ty (by decide +kernel), false, rfl, rfl, rfl⟩
      | «at» n =>
        rw [ho] at eo
        cases eo
        exact ⟨_, rfl, .int n, .ty "tuple", _, _, false, rfl, .ty "tuple", .base (.int n), kit_ty (by decide +kernel), false, rfl, rfl, rfl⟩
      | cp n c =>
        rw [ho] at eo
        obtain ⟨qo, rfl, eq⟩ := eo
        exact ⟨_, rfl, .ref qo, .ty "tuple", _, _, true, rfl, .ty "tuple", .base (.tup (s1 _ _ eq)), kit_ty (by decide +kernel), true, rfl, rfl, rfl⟩
    rintro _ HX ⟨cp, rfl, ecp, eHX⟩
    rw [eHX]
    clear eHX HX
    refine ⟨fun σ' H' => σ' = [some (.ref lk), some (.ref lm), some tv, some (.ref lf), some (.ref mc.t), some (.bl cp), none, some (.str mc.z), some (.int mc.b), some ov, some (.ref lp), some (.int k0.r.g), some (K26F.oV k0.r.a), some (K26F.sV k0.r.s), some (.int num), none, none, none, none, none, none, none] ∧ Same H1 H', ?_, ?_⟩
    · have em1 := s1 _ _ em
      have ef1 := s1 _ _ ef
      have af1 : ∀ q ∈ qs, PlrAt H1 q := fun q hq => (af q hq).same s1
      cases ho : mc.o with
      | non =>
        rw [ho] at ecp eo
        have fi : (match mc.o with | .non => _ | .at w => _ | .cp w c => _ : Prop) := fi
        rw [ho] at fi
        cases eo
        subst ecp
        obtain ⟨c1, c2, c3⟩ := fi
        refine ⟨_, rfl, false, rfl, iteF ⟨_, rfl, _, rfl, _, rfl, _, rfl, _, rfl, ?_⟩⟩
        unfold spRead
        exact ⟨lm, lf, ms, qs, k0.r.s, .non, mc.b, num, rfl, em1, m1, m9, ef1, af1, .inl ⟨c1, rfl, c2, c3⟩, fun H' s' => ⟨rfl, s'⟩⟩
      | «at» n =>
        rw [ho] at ecp eo
        have fi : (match mc.o with | .non => _ | .at w => _ | .cp w c => _ : Prop) := fi
        rw [ho] at fi
        cases eo
        subst ecp
        obtain ⟨y, i, e, c1, c2, c3, c4, c5, c6, c7⟩ := fi
        obtain ⟨q, hq, rfl⟩ := w_at c3
        refine ⟨_, rfl, false, rfl, iteF ⟨_, rfl, _, rfl, _, rfl, _, rfl, _, rfl, ?_⟩⟩
        unfold spRead
        exact ⟨lm, lf, ms, qs, k0.r.s, .int n, mc.b, num, rfl, em1, m1, m9, ef1, af1, .inr ⟨y, i, q, c1, by rw [c2], hq, c4, c5, c6, c7⟩, fun H' s' => ⟨rfl, s'⟩⟩
      | cp n c =>
        rw [ho] at ecp eo
        have fi : (match mc.o with | .non => _ | .at w => _ | .cp w c => _ : Prop) := fi
        rw [ho] at fi
        obtain ⟨qo, rfl, eq⟩ := eo
        subst ecp
        obtain ⟨a, i, e, r, c1, c2, c3, c4, c5, c6, c7, c8, c9, c10, c11⟩ := fi
        obtain ⟨q, hq, rfl⟩ := w_at c5
        refine ⟨_, rfl, true, rfl, iteT ⟨_, rfl, _, rfl, _, rfl, _, rfl, _, rfl, ?_⟩⟩
        rw [c1]
        unfold spCpy
        exact ⟨lf, qo, qs, mc.z, a, c, mc.b, r, i, q, rfl, ef1, af1, by rw [← c2]; exact s1 _ _ eq, c3, c4, hq, c6, c7, c8, c9, c10, fun H' s' => ⟨by rw [c11]; rfl, s'⟩⟩
    rintro _ H2 ⟨rfl, s12⟩
    have s2 := s1.trans s12
    refine ⟨fun σ' H' => σ' = [some (.ref lk), some (.ref lm), some tv, some (.ref lf), some (.ref mc.t), some (.bl cp), none, some (.str mc.z), some (.int mc.b), some ov, some (.ref lp), some (.int k0.r.g), some (K26F.oV k0.r.a), some (K26F.sV k0.r.s), some (.int num), none, none, none, none, none, none, none] ∧ H' = H2, ?_, ?_⟩
    · exact ⟨_, rfl, rfl, _, rfl, iteF ⟨rfl, rfl⟩⟩
    rintro _ HX ⟨rfl, eHX⟩
    rw [eHX]
    clear eHX HX
    refine ⟨fun σ' H' => ∃ ls t1, σ' = [some (.ref lk), some (.ref lm), some tv, some (.ref lf), some (.ref mc.t), some (.bl cp), none, some (.str mc.z), some (.int mc.b), some ov, some (.ref lp), some (.int k0.r.g), some (K26F.oV k0.r.a), some (K26F.sV k0.r.s), some (.int num), some (.ref ls), some (.int mc.b), some .non, none, none, none, none] ∧ Same H2 H' ∧ H' ls = some (.lst [.ref t1]) ∧ H' t1 = some (.tup [.int mc.b, .int num]) ∧ H2 ls = none, ?_, ?_⟩
    · refine ⟨_, rfl, _, rfl, by show 2 ≤ sizeLine; decide, fun t1 n1 => ⟨by show 1 ≤ sizeLine; decide, fun ls nl => ?_⟩⟩
      have g1 := same_new (o := .tup [.int mc.b, .int num]) n1
      have g2 := same_new (o := .lst [.ref t1]) nl
      exact ⟨_, rfl, _, _, _, rfl, ls, t1, rfl, g1.trans g2, upd_same, g2 _ _ upd_same, g1.free nl⟩
    rintro _ H3 ⟨ls, t1, rfl, s23, els, et1, nls2⟩
    have s3 := s2.trans s23
    rcases k with ⟨rfl, k⟩ | ⟨pm, pw, n1, n2, lt, a1, a2, tq, d1, d2, rfl, rfl, fp, lo, hi, nn, rfl, elt, q1, q2, td1, td2, few, k⟩
    · have e3 : H lp = some (.tup []) := e3
      have e33 := s3 _ _ e3
      refine ⟨fun σ' H' => σ' = [some (.ref lk), some (.ref lm), some tv, some (.ref lf), some (.ref mc.t), some (.bl cp), none, some (.str mc.z), some (.int mc.b), some ov, some (.ref lp), some (.int k0.r.g), some (K26F.oV k0.r.a), some (K26F.sV k0.r.s), some (.int num), some (.ref ls), some (.int mc.b), some .non, none, none, none, none] ∧ H' = H3, ?_, ?_⟩
      · refine ⟨_, rfl, lp, rfl, ⟨_, SqT.of e33⟩, ?_⟩
        exact for_tup (K := K) (a := lp) (xs := []) (fun j σ' H' => σ' = [some (.ref lk), some (.ref lm), some tv, some (.ref lf), some (.ref mc.t), some (.bl cp), none, some (.str mc.z), some (.int mc.b), some ov, some (.ref lp), some (.int k0.r.g), some (K26F.oV k0.r.a), some (K26F.sV k0.r.s), some (.int num), some (.ref ls), some (.int mc.b), some .non, none, none, none, none] ∧ H' = H3) ⟨rfl, rfl⟩ (fun j σ' H' _ h => by rw [h.2]; exact SqT.of e33) (fun j x σ' H' hx _ => by cases hx) fun σ' H' h => h
      rintro _ HX ⟨rfl, eHX⟩
      rw [eHX]
      clear eHX HX
      refine ⟨fun σ' H' => σ' = [some (.ref lk), some (.ref lm), some tv, some (.ref lf), some (.ref mc.t), some (.bl cp), some (K26F.oV (rdyO mc.b mc.o)), some (.str mc.z), some (.int mc.b), some ov, some (.ref lp), some (.int k0.r.g), some (K26F.oV k0.r.a), some (K26F.sV k0.r.s), some (.int num), some (.ref ls), some (.int mc.b), some .non, none, none, none, none] ∧ Same H3 H', ?_, ?_⟩
      · cases cp with
        | false =>
          have er : rdyO mc.b mc.o = some mc.b := by
            cases ho : mc.o with
            | non => rfl
            | «at» n => rfl
            | cp n c => rw [ho] at ecp; cases ecp
          rw [er]
          exact ⟨_, rfl, false, rfl, iteTe rfl ⟨_, rfl, rfl, .refl _⟩⟩
        | true =>
          have er : rdyO mc.b mc.o = none := by
            cases ho : mc.o with
            | non => rw [ho] at ecp; cases ecp
            | «at» n => rw [ho] at ecp; cases ecp
            | cp n c => rfl
          rw [er]
          refine ⟨_, rfl, true, rfl, iteFe rfl ?_⟩
          refine ⟨_, rfl, lp, rfl, ⟨_, SqT.of e33⟩, fun D nD => ?_⟩
          refine lc_tup (K := K) (a := lp) (xs := []) (fun j H' => H' D = some (.lst []) ∧ Same H3 H') ⟨upd_same, same_new nD⟩ (fun j H' _ h => SqT.of (h.2 _ _ e33)) (fun j y H' hy _ => by cases hy) ?_
          rintro H4 ⟨eD, s4⟩
          refine ⟨by show 1 ≤ sizeLine; decide, fun l5 n5 => ?_⟩
          have g5 := same_new (o := .lst [.non]) n5
          refine ⟨D, l5, _, _, rfl, rfl, g5 _ _ eD, upd_same, by show 1 ≤ sizeLine; decide, fun l6 n6 => ?_⟩
          exact ⟨l6, _, 0, _, rfl, rfl, SqL.of upd_same, atI_nat (j := 0) rfl, rfl, s4.trans (g5.trans (same_new n6))⟩
      rintro _ H4 ⟨rfl, s34⟩
      refine ⟨_, rfl, _, rfl, _, rfl, _, rfl, _, _, rfl, rfl, _, _, rfl, rfl, _, rfl, _, rfl, by show 5 ≤ sizeLine; decide, fun t nt => ?_⟩
      have s4 := s3.trans s34
      have gt := same_new (o := .tup [.str mc.z, .ref ls, .int (mc.b + k0.r.g - 1), .non, K26F.oV (rdyO mc.b mc.o)]) nt
      have eg : gZ kr mc.z = k0.r.g := by rw [← kz]; exact gZ_at ko hk0
      refine k ⟨t, toP kr num mc.w⟩ _ (s4.free nt) (s4.trans gt) ⟨ls, t1, ?_, gt _ _ (s34 _ _ els), gt _ _ (s34 _ _ et1)⟩ rfl
      show _ = some (HO.tup [.str mc.z, .ref ls, .int (mc.b + gZ kr mc.z - 1), .non, K26F.oV (rdyO mc.b mc.o)])
      rw [eg]
      exact upd_same

    · obtain ⟨pt, ep1, ep2⟩ := id e3
      have nls : H ls = none := s2.free nls2
      have ep13 := s3 _ _ ep1
      have eg : gZ kr mc.z = k0.r.g := by rw [← kz]; exact gZ_at ko hk0
      rw [eg] at hi k
      refine ⟨fun σ' H' => ∃ lv : V, σ' = [some (.ref lk), some (.ref lm), some (.ref lt), some (.ref lf), some (.ref mc.t), some (.bl cp), none, some (.str mc.z), some (.int mc.b), some ov, some (.ref lp), some (.int k0.r.g), some (K26F.oV k0.r.a), some (K26F.sV k0.r.s), some (.int (n1 : Int)), some (.ref ls), some (.int pm), some lv, some (.int pm), some (K26F.oV pw), some (.int (n2 : Int)), none] ∧ Same H H' ∧ H' t1 = some (.tup [.int mc.b, .int (n1 : Int)]) ∧ ((vouB d1 d2 = true ∧ lv = .non ∧ ∃ t2, H' ls = some (.lst [.ref t1, .ref t2]) ∧ H' t2 = some (.tup [.int pm, .int (n2 : Int)])) ∨ (vouB d1 d2 = false ∧ H' ls = some (.lst [.ref t1]) ∧ ∃ q3, lv = .ref q3 ∧ H' q3 = some (.tup [.int pm, .int (n1 : Int), .int (n2 : Int)]))), ?_, ?_⟩
      · refine ⟨_, rfl, lp, rfl, ⟨_, SqT.of ep13⟩, ?_⟩
        refine for_tup (K := K) (a := lp) (xs := [.ref pt]) (fun j σ' H' => (j = 0 ∧ σ' = [some (.ref lk), some (.ref lm), some (.ref lt), some (.ref lf), some (.ref mc.t), some (.bl cp), none, some (.str mc.z), some (.int mc.b), some ov, some (.ref lp), some (.int k0.r.g), some (K26F.oV k0.r.a), some (K26F.sV k0.r.s), some (.int (n1 : Int)), some (.ref ls), some (.int mc.b), some .non, none, none, none, none] ∧ H' = H3) ∨ (j = 1 ∧ ∃ lv : V, σ' = [some (.ref lk), some (.ref lm), some (.ref lt), some (.ref lf), some (.ref mc.t), some (.bl cp), none, some (.str mc.z), some (.int mc.b), some ov, some (.ref lp), some (.int k0.r.g), some (K26F.oV k0.r.a), some (K26F.sV k0.r.s), some (.int (n1 : Int)), some (.ref ls), some (.int pm), some lv, some (.int pm), some (K26F.oV pw), some (.int (n2 : Int)), none] ∧ Same H H' ∧ H' t1 = some (.tup [.int mc.b, .int (n1 : Int)]) ∧ ((vouB d1 d2 = true ∧ lv = .non ∧ ∃ t2, H' ls = some (.lst [.ref t1, .ref t2]) ∧ H' t2 = some (.tup [.int pm, .int (n2 : Int)])) ∨ (vouB d1 d2 = false ∧ H' ls = some (.lst [.ref t1]) ∧ ∃ q3, lv = .ref q3 ∧ H' q3 = some (.tup [.int pm, .int (n1 : Int), .int (n2 : Int)]))))) (.inl ⟨rfl, rfl, rfl⟩) (fun j σ' H' _ h => by
          rcases h with ⟨_, _, rfl⟩ | ⟨_, lv, _, s', _⟩
          · exact SqT.of ep13
          · exact SqT.of (s' _ _ ep1)) ?_ ?_
        · rintro j y σ' H' hy h
          rcases h with ⟨rfl, rfl, eHX⟩ | ⟨rfl, _⟩
          case inr => simp at hy
          cases Option.some.inj hy
          rw [eHX]
          clear eHX H'
          have em3 := s3 _ _ em
          have ef3 := s3 _ _ ef
          have af3 : ∀ q ∈ qs, PlrAt H3 q := fun q hq => (af q hq).same s3
          refine ⟨pt, _, rfl, SqT.of (s3 _ _ ep2), rfl, _, _, rfl, _, _, rfl, rfl, ?_⟩
          have ur : ∀ (Q2 : VK), (∀ H5, Same H3 H5 → Q2 (.int (n2 : Int)) H5) → spRead K [.ref lm, .ref lf, K26F.sV k0.r.s, K26F.oV pw, .int pm] H3 Q2 E0 := fun Q2 k2 => by
            obtain ⟨j1, k1, hk1, kz1, fi1⟩ := fp
            have ek1 : k1 = k0 := by
              have a1 := kr_find ko.nd hk1
              have a2 := kr_find ko.nd hk0
              rw [show k1.z = k0.z from (show k1.z = mc.z from kz1).trans kz.symm, a2] at a1
              exact (Option.some.inj a1).symm
            subst ek1
            unfold spRead
            cases pw with
            | none =>
              obtain ⟨c1, c2, c3⟩ := fi1
              exact ⟨lm, lf, ms, qs, k1.r.s, .non, pm, _, rfl, em3, m1, m9, ef3, af3, .inl ⟨c1, rfl, c2, c3⟩, k2⟩
            | some wi =>
              obtain ⟨y, i, e, c1, c2, c3, c4, c5, c6, c7⟩ := fi1
              obtain ⟨q, hq, rfl⟩ := w_at c3
              exact ⟨lm, lf, ms, qs, k1.r.s, .int wi, pm, _, rfl, em3, m1, m9, ef3, af3, .inr ⟨y, i, q, c1, by rw [c2], hq, c4, c5, c6, c7⟩, k2⟩
          refine ⟨_, rfl, _, rfl, _, rfl, _, rfl, _, rfl, ur _ fun H5 s5 => ?_⟩
          have els5 := s5 _ _ els
          have et15 := s5 _ _ et1
          have s35 := s3.trans s5
          have elt5 := s35 _ _ elt
          refine ⟨_, rfl, rfl, _, rfl, iteFe (decide_eq_false fun z => nomatch z) ⟨_, rfl, _, rfl, mc.b, pm, rfl, rfl, _, rfl, iteTe (decide_eq_true lo) ?_⟩⟩
          refine ⟨_, rfl, _, rfl, mc.b, k0.r.g, rfl, rfl, pm, mc.b + k0.r.g, rfl, rfl, _, rfl, iteFe (by rw [decide_eq_true hi]; rfl) ?_⟩
          refine ⟨_, rfl, rfl, _, rfl, iteTe (decide_eq_true rfl) ⟨_, rfl, _, rfl, 1, rfl, ls, _, _, _, rfl, rfl, SqL.of els5, atI_last [] _, t1, _, 1, _, rfl, rfl, SqT.of et15, atI_nat (j := 1) rfl, _, _, rfl, rfl, _, rfl, iteTe (decide_eq_true (by omega)) ?_⟩⟩
          refine ⟨_, rfl, _, rfl, 1, rfl, ls, _, _, _, rfl, rfl, SqL.of els5, atI_last [] _, t1, _, 1, _, rfl, rfl, SqT.of et15, atI_nat (j := 1) rfl, lt, _, _, .ref a1, rfl, rfl, SqL.of elt5, atI_nat (j := n1) (by rw [List.getElem?_map, q1]; rfl), _, rfl, _, rfl, lt, _, _, .ref a2, rfl, rfl, SqL.of elt5, atI_nat (j := n2) (by rw [List.getElem?_map, q2]; rfl), ?_⟩
          refine ⟨a1, a2, d1, d2, rfl, td1.same s35, td2.same s35, few, fun H6 s6 => ⟨_, rfl, ?_⟩⟩
          have els6 := s6 _ _ els5
          have et16 := s6 _ _ et15
          have s36 := s35.trans s6
          cases vb : vouB d1 d2 with
          | true =>
            refine iteT ⟨_, rfl, .inl ⟨rfl, _, .inl (.inl els6)⟩, ?_⟩
            refine ⟨_, rfl, _, rfl, by show 2 ≤ sizeLine; decide, fun t2 nt2 => ?_⟩
            have g2 := same_new (o := .tup [.int pm, .int (n2 : Int)]) nt2
            have els7 := g2 _ _ els6
            have tl : t2 ≠ ls := fun q => by rw [q, els6] at nt2; cases nt2
            have t1l : t1 ≠ ls := fun q => by rw [q, els6] at et16; cases et16
            refine ⟨ls, _, _, rfl, rfl, els7, by show 1 < sizeLine; decide, ?_⟩
            refine ⟨_, rfl, .inr ⟨rfl, .non, rfl, same_mut (s36.trans g2) nls, by rw [upd_ne t1l]; exact g2 _ _ et16, .inl ⟨rfl, rfl, t2, upd_same, by rw [upd_ne tl]; exact upd_same⟩⟩⟩
          | false =>
            refine iteF ⟨_, rfl, _, rfl, 1, rfl, ls, _, _, _, rfl, rfl, SqL.of els6, atI_last [] _, t1, _, 1, _, rfl, rfl, SqT.of et16, atI_nat (j := 1) rfl, _, rfl, by show 3 ≤ sizeLine; decide, fun q3 nq3 => ?_⟩
            have g3 := same_new (o := .tup [.int pm, .int (n1 : Int), .int (n2 : Int)]) nq3
            exact ⟨_, rfl, .inr ⟨rfl, .ref q3, rfl, s36.trans g3, g3 _ _ et16, .inr ⟨rfl, g3 _ _ els6, q3, rfl, upd_same⟩⟩⟩
        · rintro σ' H' h
          rcases h with ⟨z, _⟩ | ⟨_, h⟩
          · cases z
          · exact h
      rintro _ H4 ⟨lv, rfl, s4, et14, aft⟩
      refine ⟨fun σ' H' => ∃ rv : V, σ' = [some (.ref lk), some (.ref lm), some (.ref lt), some (.ref lf), some (.ref mc.t), some (.bl cp), some rv, some (.str mc.z), some (.int mc.b), some ov, some (.ref lp), some (.int k0.r.g), some (K26F.oV k0.r.a), some (K26F.sV k0.r.s), some (.int (n1 : Int)), some (.ref ls), some (.int pm), some lv, some (.int pm), some (K26F.oV pw), some (.int (n2 : Int)), none] ∧ Same H4 H', ?_, ?_⟩
      · have ep14 := s4 _ _ ep1
        have ep24 := s4 _ _ ep2
        cases cp with
        | false => exact ⟨_, rfl, false, rfl, iteTe rfl ⟨_, rfl, _, rfl, .refl _⟩⟩
        | true =>
          refine ⟨_, rfl, true, rfl, iteFe rfl ?_⟩
          refine ⟨_, rfl, lp, rfl, ⟨_, SqT.of ep14⟩, fun D nD => ?_⟩
          refine lc_tup (K := K) (a := lp) (xs := [.ref pt]) (fun j H' => H' D = some (.lst (if j = 0 then [] else [.int pm])) ∧ Same H4 H') ⟨upd_same, same_new nD⟩ (fun j H' _ h => SqT.of (h.2 _ _ ep14)) (fun j y H' hy h => ?_) ?_
          · obtain ⟨eD, s'⟩ := h
            match j, hy with
            | 0, hy =>
              cases Option.some.inj hy
              exact ⟨rfl, K26C.yes_if ⟨_, rfl, pt, _, 0, _, rfl, rfl, SqT.of (s' _ _ ep24), atI_nat (j := 0) rfl, _, eD, by show 0 < sizeLine; decide, upd_same, same_mut s' nD⟩⟩
            | j + 1, hy => simp at hy
          rintro H5 ⟨eD, s5⟩
          refine ⟨by show 1 ≤ sizeLine; decide, fun l5 n5 => ?_⟩
          have g5 := same_new (o := .lst [.non]) n5
          refine ⟨D, l5, _, _, rfl, rfl, g5 _ _ eD, upd_same, by show 2 ≤ sizeLine; decide, fun l6 n6 => ?_⟩
          exact ⟨l6, _, 0, _, rfl, rfl, SqL.of upd_same, atI_nat (j := 0) rfl, _, rfl, s5.trans (g5.trans (same_new n6))⟩
      rintro _ H5 ⟨rv, rfl, s5⟩
      refine ⟨_, rfl, _, rfl, _, rfl, _, rfl, _, _, rfl, rfl, _, _, rfl, rfl, _, rfl, _, rfl, by show 5 ≤ sizeLine; decide, fun t nt => ?_⟩
      have s45 := s4.trans s5
      have gt := same_new (o := .tup [.str mc.z, .ref ls, .int (pm + k0.r.g - 1), lv, rv]) nt
      refine k t ls _ (s45.free nt) nls (s45.trans gt) ⟨t1, lv, rv, upd_same, gt _ _ (s5 _ _ et14), ?_⟩
      rcases aft with ⟨c1, c2, t2, c3, c4⟩ | ⟨c1, c2, q3, c3, c4⟩
      · exact .inl ⟨c1, c2, t2, gt _ _ (s5 _ _ c3), gt _ _ (s5 _ _ c4)⟩
      · exact .inr ⟨c1, gt _ _ (s5 _ _ c2), q3, c3, gt _ _ (s5 _ _ c4)⟩
end
end K26
namespace K26
open PySem PySem.Spec PyProof.Rows L2 Jg
local macro_rules | `(tactic| walk_at "rd1") => `(tactic| (first
  | refine ⟨_, rfl, ?_⟩
  | refine ⟨_, _, rfl, rfl, ?_⟩
  | refine ⟨_, _, rfl, ?_⟩
  | refine ⟨rfl, ?_⟩
  | (refine ⟨show (0 : Int) < _ by omega, ?_⟩)
  | (refine ⟨Or.inl ⟨by omega, by omega⟩, ?_⟩)
  | (refine ⟨Or.inr ⟨by omega, by omega⟩, ?_⟩)
  | (refine ⟨(⟨by decide, by decide, by decide⟩ : CPow _ _), ?_⟩)
  | refine Or.inl ⟨_, rfl, ?_⟩
  | refine Or.inr ⟨_, rfl, ?_⟩
  | fail "rd"))
local macro_rules | `(tactic| walk_at "rd") => `(tactic| repeat' walk_at "rd1")
def srcO (so : Option Str) (n : Nat) : Option Int := match so with
  | none => none
  | some _ => some ((n : Int) - 1)
@[irreducible] def spJRun (K : PySem.W.Frag) (PC C FC KC CU CE : Addr) : Sp := fun vs H Q E => ∃ (p f : Addr) (es : List Ed) (ks : K26F.Ks) (cl : List Cl) (y y1 y2 : V) (e0 : Ed), vs = [.ref p, .ref f, y, y1, y2] ∧ PlAt PC C H p es ∧ FlAt FC KC H f ks cl ∧ es[0]? = some e0 ∧
  Askd K CU H (e0.c.us.map (·.z)) cl ks y E fun z =>
    (K26F.BadR K H 0 (es.length - 1) y1 ∧ ∀ d H', H d = none → Same H H' → H' d = some (.xd [(("number" : Str), y1)]) → E (.ref CE) (some d) H') ∨ ∃ (i : Nat) (ei : Ed), y1 = .int i ∧ es[i]? = some ei ∧
      ((K26F.BadR K H 0 (es.length - 1) y2 ∧ ∀ d H', H d = none → Same H H' → H' d = some (.xd [(("number" : Str), y2)]) → E (.ref CE) (some d) H') ∨ ∃ (j : Nat) (ej : Ed), y2 = .int j ∧ es[j]? = some ej ∧
        (((((i : Int), (j : Int)) ∉ jmps (mos es) (lateK ks z)) ∧ ∀ H', Same H H' → Q .non H') ∨
         ((((i : Int), (j : Int)) ∈ jmps (mos es) (lateK ks z)) ∧ ∃ (kr : List KRow) (ia : Nat) (ka : KRow), HoF PC C FC KC p f es ks cl kr i H ∧ HoF PC C FC KC p f es ks cl kr j H ∧ kr[ia]? = some ka ∧ ka.z = z ∧
          ∀ (T tm te : Addr) (m1 m2 : List Mac) (mc : Mac) (H' : Hp), H T = none → Same H H' → H' T = some (.tup [.ref tm, .ref te]) → H' te = some (.tup []) → H' tm = some (.tup ((m1 ++ m2).map Mac.v ++ [.ref mc.t])) → (∀ x ∈ m1 ++ m2, MacAt H' x) → MacU H' mc (some ((mos es).getD j 0, srcO ka.r.s m1.length)) →
            m1.map Mac.w = hmL kr (mos es) j 3 ka.r.s ((mos es).getD j 0) 0 → m2.map Mac.w ++ [mc.w] = hmL kr (mos es) i 4 (some z) ((mos es).getD j 0 - 1) m1.length → Q (.ref T) H')))
theorem badR_k {K : PySem.W.Frag} {H H' : Hp} {lo hi : Int} {y : V} (h : K26F.BadR K H lo hi y) (s : Same H H') : K26F.BadR K H' lo hi y := h.elim .inl fun n => .inr (n.keep s)
section
variable {P : Program} {w : World} {K : PySem.W.Frag} {mg : Str → Option Value} {base : Heap} {C PC CU CE FC KC : Addr}
theorem sc_jump_run : FnScope ["plan", "fleet", "kind", "early", "late", "pairs", "moment", "source", "machines", "pull", "holders", "name", "begun", "origin", "_"] ["plan", "fleet", "kind", "early", "late"] (defScope s_jump_run) := ⟨rfl, rfl, rfl, by decide +kernel, rfl, by decide +kernel, by decide +kernel⟩
theorem ok_jrun (D : DefK K mg "jump_run" s_jump_run) (T : TxP K mg) (PT : PTx K mg PC) (TF : K26F.FTx K mg FC) (TK : K26F.Txt K mg KC) (G_jumps : Cal P w K mg base (L2.CX P w) 7 "jumps" (spJumps K PC C FC KC CU)) (M_mo : Met P w K mg base (L2.CX P w) 5 PC "moment_of" (spPOf K PC C CE fun e => .int e.m)) (M_getF : Met P w K mg base (L2.CX P w) 8 FC "__getitem__" (K26F.spGet K FC KC CU)) (P_source : Prp P w K mg base CX0 1 KC "source" (K26F.spPrp KC fun r => K26F.sV r.s)) (G_source_machines : Cal P w K mg base CX0 19 "source_machines" (spSrc PC C FC KC 3)) (G_source_number : Cal P w K mg base CX0 1 "source_number" (spSrcN K)) (G_holding_machines : Cal P w K mg base CX0 20 "holding_machines" (spHold PC C FC KC 4)) : Cal P w K mg base (L2.CX P w) 21 "jump_run" (spJRun K PC C FC KC CU CE) := by
  refine D.calX sc_jump_run (fun _ _ _ _ _ _ us hl => match us, hl with | [_, _, _, _, _], _ => rfl) (fun vs H Q E h => ?_) fun f0 cdv A outer s0 H vs Q E hr h => ?_
  · unfold spJRun at h; obtain ⟨p, f, es, ks, cl, y, y1, y2, e0, rfl, _⟩ := h; rfl
  · unfold spJRun at h; obtain ⟨p, f, es, ks, cl, y, y1, y2, e0, rfl, pl, fl, e00, k⟩ := h
    have hu1 : (A.deeper (envOfC "jump_run" (defScope s_jump_run) s0.heap.objs.size f0 cdv)).units + 65 < cLine := by have := hr.un; omega
    refine ⟨_, (pss_cons (ps_set (i := 5) sc_jump_run.nd rfl (Or.inl rfl) (pe_cS G_jumps (takes_of rfl rfl rfl rfl) hr (by decide) rfl (pa_cons (pv 0) (pa_cons (pv 1) (pa_cons (pv 2) pa_nil)))))
      (pss_cons (ps_expr (pe_mS M_mo PT.cl (takes_of rfl rfl rfl rfl) hr (by decide) (pv 0) (pa_cons (pv 3) pa_nil)))
      (pss_cons (ps_set (i := 6) sc_jump_run.nd rfl (Or.inl rfl) (pe_mS M_mo PT.cl (takes_of rfl rfl rfl rfl) hr (by decide) (pv 0) (pa_cons (pv 4) pa_nil)))
      (pss_cons (ps_if (pt_cmpR (r := rNotInD K) (op_notInD hu1) (pe_tup (pa_cons (pv 3) (pa_cons (pv 4) pa_nil))) (pv 5) rfl) (pss_one (ps_ret pe_non)) pss_nil)
      (pss_cons (ps_set (i := 7) sc_jump_run.nd rfl (Or.inl rfl) (pe_p P_source TK.cl hr (by decide) (pe_ixO M_getF TF.fn (takes_of rfl rfl rfl rfl) hr (by decide) (pv 1) (pv 2) (fun _ _ => rfl))))
      (pss_cons (ps_set (i := 8) sc_jump_run.nd rfl (Or.inl rfl) (pe_c G_source_machines hr (by decide) rfl (pa_cons (pv 0) (pa_cons (pv 1) (pa_cons (pv 7) (pa_cons (pv 4) (pa_cons (pv 6) (pa_cons pe_int pa_nil))))))))
      (pss_cons (ps_set (i := 9) sc_jump_run.nd rfl (Or.inl rfl) (pe_tup (pa_cons (pv 6) (pa_cons (pe_c G_source_number hr (by decide) rfl (pa_cons (pv 7) (pa_cons (pv 8) (pa_cons pe_int pa_nil)))) pa_nil))))
      (pss_cons (ps_set (i := 10) sc_jump_run.nd rfl (Or.inl rfl) (pe_c G_holding_machines hr (by decide) rfl (pa_cons (pv 0) (pa_cons (pv 1) (pa_cons (pv 2) (pa_cons (pv 3) (pa_cons (pe_op op_sub (pv 6) pe_int) (pa_cons (pe_callB call_len_seq (by rfl) T.b_len (by decide +kernel) (pa_cons (pv 8) pa_nil)) pa_nil))))))))
      (pss_cons (ps_asg (pe_bm0 F.plainAttrs_list F.slot_list_pop F.type_list_pop mt_pop (pv 10)) (pg_tup rfl (pgs_cons (pg_name (i := 11) sc_jump_run.nd rfl (Or.inl rfl)) (pgs_cons (pg_name (i := 12) sc_jump_run.nd rfl (Or.inl rfl)) (pgs_cons (pg_name (i := 13) sc_jump_run.nd rfl (Or.inl rfl)) (pgs_cons (pg_name (i := 14) sc_jump_run.nd rfl (Or.inl rfl)) pgs_nil))))))
      (pss_one (ps_ret (pe_tup (pa_cons (pe_tup (show PA _ _ (StX.tStar K (tVar 8) (StX.tStar K (tVar 10) (tCons (tTup (tCons (tVar 11) (tCons (tVar 12) (tCons (tVar 13) (tCons (tTup (tCons (tVar 9) tNil)) tNil))))) tNil))) from StX.pa_star (pv 8) (StX.pa_star (pv 10) (pa_cons (pe_tup (pa_cons (pv 11) (pa_cons (pv 12) (pa_cons (pv 13) (pa_cons (pe_tup (pa_cons (pv 9) pa_nil)) pa_nil))))) pa_nil)))) (pa_cons (pe_tup pa_nil) pa_nil)))))))))))))), ?_⟩
    obtain ⟨dxp, lp, ep, elp⟩ := id pl.ex
    obtain ⟨d, cc, fa⟩ := id fl.ex
    obtain ⟨dxf, ef⟩ := id fa.at_
    refine ⟨_, rfl, _, rfl, _, rfl, ?_⟩
    unfold spJumps
    refine ⟨p, es, f, ks, cl, y, e0, rfl, pl, fl, e00, ?_⟩
    unfold Askd at k ⊢
    rcases k with k | ⟨ms, k⟩
    · exact .inl k
    refine .inr ⟨ms, ?_⟩
    rcases k with k | ⟨z, rfl, mz, k⟩
    · exact .inl k
    refine .inr ⟨z, rfl, mz, fun l H1 nl s1 pr => ?_⟩
    refine ⟨_, rfl, p, dxp, _, rfl, s1 _ _ ep, get_eno _ (by decide +kernel), _, rfl, p, es, _, rfl, pl.same s1, ?_⟩
    rcases k with ⟨bad, kx⟩ | ⟨i, ei, rfl, hei, k⟩
    · exact .inr ⟨badR_k bad s1, fun d H' nd s2 ed => kx d H' (s1.free nd) (s1.trans s2) ed⟩
    refine .inl ⟨i, ei, rfl, hei, ?_⟩
    refine ⟨_, rfl, p, dxp, _, rfl, s1 _ _ ep, get_eno _ (by decide +kernel), _, rfl, p, es, _, rfl, pl.same s1, ?_⟩
    rcases k with ⟨bad, kx⟩ | ⟨j, ej, rfl, hej, k⟩
    · exact .inr ⟨badR_k bad s1, fun d H' nd s2 ed => kx d H' (s1.free nd) (s1.trans s2) ed⟩
    refine .inl ⟨j, ej, rfl, hej, ?_⟩
    have li := (List.getElem?_eq_some_iff.mp hei).1
    have lj := (List.getElem?_eq_some_iff.mp hej).1
    have lm : (mos es).length = es.length := by unfold mos; rw [List.length_map]
    have emj : (mos es).getD j 0 = ej.m := by
      have : (mos es)[j]? = some ej.m := by unfold mos; rw [List.getElem?_map, hej]; rfl
      have q := ms_at (ms := mos es) (n := j) (by omega)
      rw [this] at q
      exact (Option.some.inj q).symm
    rw [emj] at k
    refine ⟨_, rfl, _, rfl, by show 2 ≤ sizeLine; decide, fun t0 nt0 => ?_⟩
    have g0 := same_new (o := .tup [V.int i, V.int j]) nt0
    refine ⟨_, rfl, ask_notInP upd_same (pr.same g0) ⟨_, rfl, ?_⟩⟩
    have s2 := s1.trans g0
    rcases k with ⟨no, k⟩ | ⟨yes, kr, ia, ka, hfi, hfj, hka, eka, k⟩
    · rw [decide_eq_false no]
      exact iteT (k _ s2)
    rw [decide_eq_true yes]
    refine iteF ?_
    generalize upd H1 t0 (.tup [V.int i, V.int j]) = H2 at *
    clear pr
    obtain ⟨x0, kx⟩ := hfi.al.at_ hka
    rw [eka] at kx
    refine ⟨_, rfl, _, rfl, f, dxf, _, rfl, s2 _ _ ef, f, d, cc, .str z, ks, _, rfl, fa.keep s2, fl.wd, .inl ⟨z, _, rfl, kx, fun x H3 nx s3 kat => ?_⟩⟩
    obtain ⟨dxk, exk⟩ := id kat
    have s23 := s2.trans s3
    refine ⟨x, dxk, _, rfl, exk, x, _, rfl, kat, ?_⟩
    have hfj3 := hfj.same s23
    have ok := hfi.al.ok
    obtain ⟨i', j', ij, jl, jm, eij⟩ := jmps_mem.mp yes
    obtain ⟨rfl, rfl⟩ : i = i' ∧ j = j' := by
      have a1 : (i : Int) = (i' : Int) := congrArg (·.1) eij
      have a2 : (j : Int) = (j' : Int) := congrArg (·.2) eij
      exact ⟨by omega, by omega⟩
    rw [emj] at jm
    unfold lastJ at jm
    have ez : lateK ks z = lateZ kr 5 (some z) := by rw [← eka]; exact late_eq hfi.al hka
    rw [ez] at jm
    have i4 : ia < 4 := by have := (List.getElem?_eq_some_iff.mp hka).1; have := hfi.k4; omega
    have ihj : InHd (mos es) j (lateZ kr 5 ka.r.s) ej.m := ⟨by rw [emj]; exact Int.le_refl _, fun e he => by rw [← emj]; exact end_ge hfj.mo (lateZ_b ok 5 _).1 jl he⟩
    have lij : (mos es).getD i 0 < ej.m := by
      have := mo_lt hfi.mo (j - i - 1) i _ _ (ms_at (ms := mos es) (n := i) (by omega)) (by rw [show i + (j - i - 1) + 1 = j by omega]; exact ms_at jl)
      rw [emj] at this; exact this
    have ihi : InHd (mos es) i (lateZ kr 5 (some ka.z)) (ej.m - 1) := ⟨by omega, fun e he => by
      rw [eka] at he
      unfold endO at he
      rw [if_neg (by omega)] at he
      have := Option.some.inj he
      omega⟩
    refine ⟨_, rfl, _, rfl, _, rfl, _, rfl, _, rfl, use_src (s := 0) (so := ka.r.s) hfj3 (fun y ey => ?_) (by decide) ihj fun lA mA H4 nA s4 eA aA wA => ?_⟩
    · obtain ⟨q, k', lt, h', q'⟩ := take_at (g := KRow.z) (ok.s ia ka y hka ey)
      exact ⟨q, k', h', q', by omega⟩
    have s24 := s23.trans s4
    refine ⟨_, rfl, _, rfl, _, rfl, ka.r.s, lA, _, 0, rfl, eA, ?_⟩
    rw [List.length_map]
    refine ⟨by show 2 ≤ sizeLine; decide, fun tp ntp => ?_⟩
    have gp := same_new (o := .tup [.int ej.m, srcV ka.r.s (0 + mA.length)]) ntp
    have etp : upd H4 tp (.tup [.int ej.m, srcV ka.r.s (0 + mA.length)]) tp = some (.tup [.int ej.m, srcV ka.r.s (0 + mA.length)]) := upd_same
    have es0 : srcV ka.r.s (0 + mA.length) = K26F.oV (srcO ka.r.s mA.length) := by rw [Nat.zero_add]; cases ka.r.s <;> rfl
    rw [es0] at gp etp ⊢
    generalize upd H4 tp (.tup [.int ej.m, K26F.oV (srcO ka.r.s mA.length)]) = H5 at *
    have s25 := s24.trans gp
    have uh := fun (Q2 : VK) (q2 : _) => use_hold (PC := PC) (C := C) (FC := FC) (KC := KC) (Q := Q2) (E := E0) (s := mA.length) (hfi.same s25) hka i4 (by decide) ihi q2
    rw [eka] at uh
    refine ⟨_, rfl, _, rfl, _, rfl, _, rfl, _, rfl, ej.m, 1, rfl, rfl, _, rfl, lA, _, rfl, .inl (SqL.of (gp _ _ eA)), ?_⟩
    rw [List.length_map]
    refine uh _ fun lB mB H6 nB s6 eB aB wB => ?_
    have s26 := s25.trans s6
    have neB : mB ≠ [] := fun q => by
      rw [q] at wB
      have := congrArg List.length wB
      rw [← eka, hmL_at ok hka, List.length_append] at this
      unfold ownL at this
      simp at this
    obtain ⟨m2, mc, rfl⟩ : ∃ m2 mc, mB = m2 ++ [mc] := ⟨_, _, (List.dropLast_concat_getLast neB).symm⟩
    have b1 := hmL_len (kr := kr) (ms := mos es) (n := j) 3 ka.r.s ej.m 0
    rw [← wA, List.length_map] at b1
    have b2 := hmL_len (kr := kr) (ms := mos es) (n := i) 4 (some z) (ej.m - 1) mA.length
    rw [← wB, List.length_map, List.length_append] at b2
    have b2 : m2.length + 1 ≤ 8 := b2
    have nlB : H lB = none := s25.free nB
    have lAB : lA ≠ lB := fun q => by rw [q] at eA; rw [gp _ _ eA] at nB; cases nB
    refine ⟨_, rfl, .inl ⟨rfl, _, .inl (.inl eB)⟩, lB, _, .ref mc.t, rfl, rfl, eB, by simp [Mac.v], ?_⟩
    have hd : ((m2 ++ [mc]).map Mac.v).dropLast = m2.map Mac.v := by simp
    rw [hd]
    have e7 : upd H6 lB (.lst (m2.map Mac.v)) lB = some (.lst (m2.map Mac.v)) := upd_same
    have a7 : ∀ x ∈ m2 ++ [mc], MacAt (upd H6 lB (.lst (m2.map Mac.v))) x := fun x hx => (aB x hx).off eB
    have aA7 : ∀ x ∈ mA, MacAt (upd H6 lB (.lst (m2.map Mac.v))) x := fun x hx => ((aA x hx).same (gp.trans s6)).off eB
    have eA7 : upd H6 lB (.lst (m2.map Mac.v)) lA = some (.lst (mA.map Mac.v)) := by rw [upd_ne lAB]; exact s6 _ _ (gp _ _ eA)
    have et7 : upd H6 lB (.lst (m2.map Mac.v)) tp = some (.tup [.int ej.m, K26F.oV (srcO ka.r.s mA.length)]) := by
      rw [upd_ne fun q => by rw [q] at etp; rw [etp] at nB; cases nB]; exact s6 _ _ etp
    have s7 : Same H (upd H6 lB (.lst (m2.map Mac.v))) := same_mut s26 nlB
    generalize upd H6 lB (.lst (m2.map Mac.v)) = H7 at *
    obtain ⟨ov, lpB, c1, c2, c3⟩ := (a7 mc (List.mem_append_right _ (List.mem_singleton.mpr rfl))).ex
    refine ⟨mc.t, _, rfl, SqT.of c1, rfl, _, _, rfl, _, _, rfl, _, _, rfl, _, _, rfl, rfl, ?_⟩
    refine ⟨_, rfl, lA, _, rfl, .inr (SqL.of eA7), _, rfl, lB, _, rfl, .inr (SqL.of e7), _, rfl, _, rfl, _, rfl, _, rfl, by show 1 ≤ sizeLine; decide, fun lq nlq => ⟨by show 4 ≤ sizeLine; decide, fun tn ntn => ?_⟩⟩
    have g1 := same_new (o := .tup [.ref tp]) nlq
    have g2 := same_new (o := .tup [.str mc.z, .int mc.b, ov, .ref lq]) ntn
    have g12 := g1.trans g2
    have elq := g2 _ _ (show upd H7 lq (.tup [.ref tp]) lq = some (.tup [.ref tp]) from upd_same)
    have etn : upd (upd H7 lq (.tup [.ref tp])) tn (.tup [.str mc.z, .int mc.b, ov, .ref lq]) tn = some (.tup [.str mc.z, .int mc.b, ov, .ref lq]) := upd_same
    have eM : mA.map Mac.v ++ (m2.map Mac.v ++ [V.ref tn]) = (mA ++ m2).map Mac.v ++ [V.ref tn] := by rw [List.map_append, List.append_assoc]
    show (mA.map Mac.v ++ (m2.map Mac.v ++ [V.ref tn])).length ≤ sizeLine ∧ ∀ p_1 : Addr, _ = none → _
    refine ⟨by rw [List.length_append, List.length_append, List.length_map, List.length_map, sizeLine_eq]; show mA.length + (m2.length + 1) ≤ _; omega, fun tm ntm => ?_⟩
    have g3 := same_new (o := .tup (mA.map Mac.v ++ (m2.map Mac.v ++ [V.ref tn]))) ntm
    refine ⟨by show 0 ≤ sizeLine; decide, fun te nte => ⟨by show 2 ≤ sizeLine; decide, fun T9 nT => ?_⟩⟩
    have g4 := same_new (o := .tup []) nte
    have g5 := same_new (o := .tup [.ref tm, .ref te]) nT
    have g15 := g12.trans (g3.trans (g4.trans g5))
    have g35 := g3.trans (g4.trans g5)
    have wB' : m2.map Mac.w ++ [mc.w] = hmL kr (mos es) i 4 (some z) (ej.m - 1) mA.length := by rw [← wB, List.map_append]; rfl
    refine k T9 tm te mA m2 ⟨tn, mc.z, mc.b, mc.o⟩ _ ((s7.trans (g12.trans (g3.trans g4))).free nT) (s7.trans g15) upd_same (g5 _ _ upd_same) ?_ (fun x hx => ?_) ⟨ov, lq, g35 _ _ etn, c2.same g15, tp, g35 _ _ elq, g15 _ _ et7⟩ wA wB'
    · rw [← eM]; exact g5 _ _ (g4 _ _ upd_same)
    · rcases List.mem_append.mp hx with hx | hx
      · exact (aA7 x hx).same g15
      · exact (a7 x (List.mem_append_left _ hx)).same g15
end
end K26
namespace K26
open PySem PySem.Spec PyProof.Rows L2 Jg
local macro_rules | `(tactic| walk_at "rd1") => `(tactic| (first
  | refine ⟨_, rfl, ?_⟩
  | refine ⟨_, _, rfl, rfl, ?_⟩
  | refine ⟨_, _, rfl, ?_⟩
  | refine ⟨rfl, ?_⟩
  | (refine ⟨show (0 : Int) < _ by omega, ?_⟩)
  | (refine ⟨Or.inl ⟨by omega, by omega⟩, ?_⟩)
  | (refine ⟨Or.inr ⟨by omega, by omega⟩, ?_⟩)
  | (refine ⟨(⟨by decide, by decide, by decide⟩ : CPow _ _), ?_⟩)
  | refine Or.inl ⟨_, rfl, ?_⟩
  | refine Or.inr ⟨_, rfl, ?_⟩
  | fail "rd"))
local macro_rules | `(tactic| walk_at "rd") => `(tactic| repeat' walk_at "rd1")
open K26C (TdAt Td vouB sgT)
theorem len_eq0 {xs : List V} {H : Hp} {a c : Addr} (h1 : H a = some (.lst xs)) (h2 : H c = some (.lst [])) : LstB FlB (.ref a) (.ref c) H (decide (xs = [])) := by
  refine ⟨a, c, xs, [], fun _ => true, rfl, rfl, h1, h2, fun l i x y hx hy => by simp at hy, ?_⟩
  cases xs with
  | nil => rfl
  | cons x xs => rfl
theorem use_mach {lk lm lf : Addr} {tv : V} {kr : List KRow} {ms : List Int} {qs : List Plr} {mc : Mac} {num : Int} {H : Hp} {Q : VK} {E : XK} (ek : H lk = some (.lst (kr.map fun k => V.ref k.t))) (ka : ∀ k ∈ kr, KrAt H k) (ko : KrOk kr) (kn : kr.length ≤ 100) (em : H lm = some (.lst (ms.map V.int))) (m1 : 1 ≤ ms.length) (m9 : ms.length ≤ 100) (ef : H lf = some (.lst (qs.map Plr.v))) (af : ∀ q ∈ qs, PlrAt H q) (am : MacAt H mc) (fi : Fits kr ms (qs.map Plr.w) mc.w num)
    (k : ∀ (q : Plr) (H' : Hp), H q.t = none → Same H H' → PlrAt H' q → q.w = toP kr num mc.w → Q (.ref q.t) H') : spMach [.ref lk, .ref lm, tv, .ref lf, .ref mc.t] H Q E := by
  unfold spMach
  exact ⟨lk, lm, lf, tv, kr, ms, qs, mc, num, none, rfl, ek, ka, ko, kn, em, m1, m9, ef, af, am.u, fi, .inl ⟨rfl, k⟩⟩
theorem mac_at {mcs : List Mac} {i : Nat} {x : V} (h : (mcs.map Mac.v)[i]? = some x) : ∃ m, mcs[i]? = some m ∧ x = .ref m.t := by
  rw [List.getElem?_map] at h
  cases c : mcs[i]? with
  | none => rw [c] at h; cases h
  | some m => rw [c] at h; exact ⟨m, rfl, (Option.some.inj h).symm⟩
@[irreducible] def spPlayed : Sp := fun vs H Q _ => ∃ (lk lm tm lt : Addr) (kr : List KRow) (ms : List Int) (mcs : List Mac) (mc : Mac) (ps : List PW) (pm : Int) (pw : Option Int) (n1 n2 : Nat) (a1 a2 : Addr) (tq : List Addr) (d1 d2 : Td), vs = [.ref lk, .ref lm, .ref lt, .ref tm] ∧ PlF lk lm tm lt kr ms mcs mc ps pm pw n1 n2 a1 a2 tq d1 d2 H ∧
  ∀ (l : Addr) (qs : List Plr) (t ls : Addr) (H' : Hp), H l = none → Same H H' → H' l = some (.lst (qs.map Plr.v ++ [.ref t])) → qs.length = mcs.length → LaAt H' t ls mc.z mc.b (n1 : Int) pm (n2 : Int) (gZ kr mc.z) (vouB d1 d2) → Q (.ref l) H'
theorem LaAt.off {H : Hp} {t ls l : Addr} {z : Str} {b num pm j g : Int} {vb : Bool} {xs : List V} {o : HO} (h : LaAt H t ls z b num pm j g vb) (e : H l = some (.lst xs)) (n : ls ≠ l) : LaAt (upd H l o) t ls z b num pm j g vb := by
  have k : ∀ {q : Addr} {ys : List V}, H q = some (.tup ys) → upd H l o q = some (.tup ys) := fun {q ys} z => by
    rw [upd_ne fun w => by rw [w, e] at z; cases z]; exact z
  obtain ⟨t1, lk, rv, a, b1, c⟩ := h.ex
  refine ⟨t1, lk, rv, k a, k b1, ?_⟩
  rcases c with ⟨c1, c2, t2, c3, c4⟩ | ⟨c1, c2, q3, c3, c4⟩
  · exact .inl ⟨c1, c2, t2, by rw [upd_ne n]; exact c3, k c4⟩
  · exact .inr ⟨c1, by rw [upd_ne n]; exact c2, q3, c3, k c4⟩
section
variable {P : Program} {w : World} {K : PySem.W.Frag} {mg : Str → Option Value} {base : Heap}
theorem sc_law_played : FnScope ["kinds", "moments", "tolds", "machines", "found", "machine"] ["kinds", "moments", "tolds", "machines"] (defScope s_law_played) := ⟨rfl, rfl, rfl, by decide +kernel, rfl, by decide +kernel, by decide +kernel⟩
theorem ok_played (D : DefK K mg "_law_played" s_law_played) (T : TxP K mg) (G_law_machine : Cal P w K mg base CX0 3 "_law_machine" spMach) : Cal P w K mg base CX0 4 "_law_played" spPlayed := by
  refine D.cal sc_law_played (fun _ _ _ _ _ _ us hl => match us, hl with | [_, _, _, _], _ => rfl) (fun vs H Q E h => ?_) fun f cdv A outer s H vs Q E hr h => ?_
  · unfold spPlayed at h; obtain ⟨lk, lm, tm, lt, kr, ms, mcs, mc, ps, pm, pw, n1, n2, a1, a2, tq, d1, d2, rfl, _⟩ := h; rfl
  · unfold spPlayed at h; obtain ⟨lk, lm, tm, lt, kr, ms, mcs, mc, ps, pm, pw, n1, n2, a1, a2, tq, d1, d2, rfl, L9, k⟩ := h
    refine ⟨_, (pss_cons (ps_set (i := 4) sc_law_played.nd rfl (Or.inl rfl) (pe_lst pa_nil))
      (pss_cons (ps_for PassesOwn.never rfl (pi_tup (pv 3)) (pg_name (i := 5) sc_law_played.nd rfl (Or.inl rfl)) (pss_cons (ps_expr (pe_bm F.plainAttrs_list F.slot_list_append F.type_list_append mt_append (pv 4) (pa_cons (pe_c G_law_machine hr (by decide) rfl (pa_cons (pv 0) (pa_cons (pv 1) (pa_cons (pv 2) (pa_cons (pv 4) (pa_cons (pv 5) pa_nil)))))) pa_nil)))
      (pss_one (ps_if (pt_cmpR op_isN (pe_ix (r := rIxL K) ix_list (pv 4) (pe_un un_neg pe_int) (fun _ _ => rfl)) pe_non (nomark _)) (pss_one (ps_ret pe_non)) pss_nil))))
      (pss_one (ps_ret (pv 4))))), ?_⟩
    refine ⟨by show 0 ≤ sizeLine; decide, fun l nl => ?_⟩
    have g0 := same_new (o := .lst []) nl
    have el : upd H l (.lst []) l = some (.lst []) := upd_same
    generalize upd H l (.lst []) = H0 at *
    have l40 := L9.l40
    have pn : ps.length = mcs.length := by rw [L9.pl.len, List.length_map]
    refine ⟨_, rfl, tm, rfl, ⟨_, SqT.of (g0 _ _ L9.et)⟩, ?_⟩
    refine for_tup (K := K) (a := tm) (xs := mcs.map Mac.v ++ [.ref mc.t]) (fun j σ' H' => (∃ (v5 : Option V) (qs : List Plr), j ≤ mcs.length ∧ σ' = [some (.ref lk), some (.ref lm), some (.ref lt), some (.ref tm), some (.ref l), v5] ∧ Same H H' ∧ H' l = some (.lst (qs.map Plr.v)) ∧ (∀ q ∈ qs, PlrAt H' q) ∧ qs.map Plr.w = ps.take j) ∨ (j = mcs.length + 1 ∧ ∃ (v5 : Option V) (qs : List Plr) (t ls : Addr), σ' = [some (.ref lk), some (.ref lm), some (.ref lt), some (.ref tm), some (.ref l), v5] ∧ Same H H' ∧ H' l = some (.lst (qs.map Plr.v ++ [.ref t])) ∧ qs.length = mcs.length ∧ LaAt H' t ls mc.z mc.b (n1 : Int) pm (n2 : Int) (gZ kr mc.z) (vouB d1 d2))) (.inl ⟨_, [], Nat.zero_le _, rfl, g0, el, (fun _ h => nomatch h), rfl⟩) (fun j σ' H' _ h => by
      rcases h with ⟨_, _, _, _, s', _⟩ | ⟨_, _, _, _, _, _, s', _⟩
      · exact SqT.of (s' _ _ L9.et)
      · exact SqT.of (s' _ _ L9.et)) ?_ ?_
    · rintro j y σ' H' hy h
      have jl := (List.getElem?_eq_some_iff.mp hy).1
      rw [List.length_append, List.length_map] at jl
      have jl : j < mcs.length + 1 := jl
      rcases h with ⟨v5, qs, jn, rfl, s', eq, aq, wq⟩ | ⟨je, _⟩
      case inr => omega
      have ql : qs.length = j := by
        have := congrArg List.length wq
        rw [List.length_map, List.length_take] at this
        omega
      by_cases cj : j < mcs.length
      · rw [List.getElem?_append_left (by rw [List.length_map]; exact cj)] at hy
        obtain ⟨m, hm, rfl⟩ := mac_at hy
        obtain ⟨num, fi, hp⟩ := L9.pl.fit j m.w (by rw [List.getElem?_map, hm]; rfl)
        refine ⟨_, rfl, .inl ⟨rfl, _, .inl (.inl eq)⟩, ?_⟩
        refine ⟨_, rfl, _, rfl, _, rfl, _, rfl, _, rfl, use_mach (s' _ _ L9.ek) (fun k hk => s' _ _ (L9.ka k hk)) L9.ko L9.kn (s' _ _ L9.em) L9.m1 L9.m9 eq aq ((L9.at_ m (List.mem_of_getElem? hm)).same s') (by rw [wq]; exact fi) fun q H2 nq s2 aq2 wq2 => ?_⟩
        have eq2 := s2 _ _ eq
        have aqs : ∀ x ∈ qs, PlrAt H2 x := fun x hx => (aq x hx).same s2
        refine ⟨l, _, _, rfl, rfl, eq2, by rw [List.length_map, sizeLine_eq]; omega, ?_⟩
        have el' : upd H2 l (.lst (qs.map Plr.v ++ [.ref q.t])) l = some (.lst ((qs ++ [q]).map Plr.v)) := by rw [upd_same, List.map_append]; rfl
        have aF : ∀ x ∈ qs ++ [q], PlrAt (upd H2 l (.lst (qs.map Plr.v ++ [.ref q.t]))) x := fun x hx => by
          rcases List.mem_append.mp hx with hx | hx
          · exact (aqs x hx).off eq2 aqs
          · rw [List.mem_singleton.mp hx]
            exact aq2.off eq2 aqs
        have sF : Same H (upd H2 l (.lst (qs.map Plr.v ++ [.ref q.t]))) := same_mut (s'.trans s2) nl
        refine ⟨_, rfl, 1, rfl, l, _, _, _, rfl, rfl, SqL.of upd_same, atI_last _ _, rfl, _, rfl, iteF ?_⟩
        exact .inl ⟨_, qs ++ [q], by omega, rfl, sF, el', aF, by rw [List.map_append, wq, List.take_succ, hp]; show _ ++ [q.w] = _; rw [wq2]; rfl⟩
      · obtain rfl : j = mcs.length := by omega
        rw [List.getElem?_append_right (by rw [List.length_map]; exact Nat.le_refl _), List.length_map, Nat.sub_self] at hy
        cases Option.some.inj hy
        have wq' : qs.map Plr.w = ps := by rw [wq]; exact List.take_of_length_le (by omega)
        have um : ∀ (Q2 : VK), (∀ (t ls : Addr) (H2 : Hp), H' t = none → H' ls = none → Same H' H2 → LaAt H2 t ls mc.z mc.b (n1 : Int) pm (n2 : Int) (gZ kr mc.z) (vouB d1 d2) → Q2 (.ref t) H2) → spMach [.ref lk, .ref lm, .ref lt, .ref l, .ref mc.t] H' Q2 E0 := fun Q2 k2 => by
          unfold spMach
          exact ⟨lk, lm, l, .ref lt, kr, ms, qs, mc, _, some (pm, pw), rfl, s' _ _ L9.ek, fun k hk => s' _ _ (L9.ka k hk), L9.ko, L9.kn, s' _ _ L9.em, L9.m1, L9.m9, eq, aq, L9.la.same s', by rw [wq']; exact L9.f1, .inr ⟨pm, pw, n1, n2, lt, a1, a2, tq, d1, d2, rfl, rfl, by rw [wq']; exact L9.f2, L9.lo, L9.hi, L9.nn, rfl, s' _ _ L9.el, L9.q1, L9.q2, L9.t1.same s', L9.t2.same s', L9.few, k2⟩⟩
        refine ⟨_, rfl, .inl ⟨rfl, _, .inl (.inl eq)⟩, ?_⟩
        refine ⟨_, rfl, _, rfl, _, rfl, _, rfl, _, rfl, um _ fun t ls H2 nt nls s2 la2 => ?_⟩
        have eq2 := s2 _ _ eq
        have lsl : ls ≠ l := fun q => by rw [q, eq] at nls; cases nls
        refine ⟨l, _, _, rfl, rfl, eq2, by rw [List.length_map, sizeLine_eq]; omega, ?_⟩
        refine ⟨_, rfl, 1, rfl, l, _, _, _, rfl, rfl, SqL.of upd_same, atI_last _ _, rfl, _, rfl, iteF ?_⟩
        exact .inr ⟨rfl, _, qs, t, ls, rfl, same_mut (s'.trans s2) nl, upd_same, ql, la2.off eq2 lsl⟩
    · rintro σ' H' h
      rw [List.length_append, List.length_map] at h
      rcases h with ⟨_, _, jn, _⟩ | ⟨_, v5, qs, t, ls, rfl, s', eq, ql, la⟩
      · exact absurd jn (by show ¬ mcs.length + 1 ≤ mcs.length; omega)
      · exact ⟨_, rfl, k l qs t ls H' nl s' eq ql la⟩
end
end K26
namespace K26
open PySem PySem.Spec PyProof.Rows L2 Jg
local macro_rules | `(tactic| walk_at "rd1") => `(tactic| (first
  | refine ⟨_, rfl, ?_⟩
  | refine ⟨_, _, rfl, rfl, ?_⟩
  | refine ⟨_, _, rfl, ?_⟩
  | refine ⟨rfl, ?_⟩
  | (refine ⟨show (0 : Int) < _ by omega, ?_⟩)
  | (refine ⟨Or.inl ⟨by omega, by omega⟩, ?_⟩)
  | (refine ⟨Or.inr ⟨by omega, by omega⟩, ?_⟩)
  | (refine ⟨(⟨by decide, by decide, by decide⟩ : CPow _ _), ?_⟩)
  | refine Or.inl ⟨_, rfl, ?_⟩
  | refine Or.inr ⟨_, rfl, ?_⟩
  | fail "rd"))
local macro_rules | `(tactic| walk_at "rd") => `(tactic| repeat' walk_at "rd1")
open K26C (TdAt Td spVou vouB sgT)
@[irreducible] def spShJ : Sp := fun vs H Q _ => ∃ (lk lm tm lt : Addr) (kr : List KRow) (ms : List Int) (mcs : List Mac) (mc : Mac) (ps : List PW) (pm : Int) (pw : Option Int) (n1 n2 : Nat) (a1 a2 : Addr) (tq : List Addr) (d1 d2 : Td) (T9 te tp : Addr), vs = [.ref lk, .ref lm, .ref lt, .str mc.z, .ref tp, .ref T9] ∧ PlF lk lm tm lt kr ms mcs mc ps pm pw n1 n2 a1 a2 tq d1 d2 H ∧
  H T9 = some (.tup [.ref tm, .ref te]) ∧ H te = some (.tup []) ∧ H tp = some (.tup [.int (n1 : Nat), .int (n2 : Nat)]) ∧ ∀ H', Same H H' → Q (.bl true) H'
theorem ask_mt {K : PySem.W.Frag} {H : Hp} {a b : Addr} {Q : VK} (h1 : H a = some (.tup [])) (h2 : H b = some (.tup [])) (q : Q (.bl false) H) : rNeD K (.ref a) (.ref b) H Q :=
  ⟨.tuple [], .tuple [], .tup (SqT.of h1) .nil, .tup (SqT.of h2) .nil, by decide, by decide, by rw [show PyData.eqv (.tuple []) (.tuple []) = true by simp [PyData.eqv, PyData.eqvAll]]; exact q⟩
theorem ask_pl {K : PySem.W.Frag} {H : Hp} {lp pt l1 : Addr} {pm : Int} {pw : Option Int} {Q : VK} (h3 : H lp = some (.tup [.ref pt])) (h4 : H pt = some (.tup [.int pm, K26F.oV pw])) (h1 : H l1 = some (.tup [])) (q : Q (.bl false) H) : rEqD K (.ref lp) (.ref l1) H Q := by
  cases pw with
  | none => exact ⟨.tuple [.tuple [.int pm, .none]], .tuple [], .tup (SqT.of h3) (.cons (.tup (SqT.of h4) (.cons (.int _) (.cons .non .nil))) .nil), .tup (SqT.of h1) .nil, rfl, rfl, by rw [show PyData.eqv (.tuple [.tuple [.int pm, .none]]) (.tuple []) = false by simp [PyData.eqv, PyData.eqvAll]]; exact q⟩
  | some i => exact ⟨.tuple [.tuple [.int pm, .int i]], .tuple [], .tup (SqT.of h3) (.cons (.tup (SqT.of h4) (.cons (.int _) (.cons (.int i) .nil))) .nil), .tup (SqT.of h1) .nil, rfl, rfl, by rw [show PyData.eqv (.tuple [.tuple [.int pm, .int i]]) (.tuple []) = false by simp [PyData.eqv, PyData.eqvAll]]; exact q⟩
theorem ask_i2 {K : PySem.W.Frag} {H : Hp} {a b : Addr} {x y : Int} {Q : VK} (h1 : H a = some (.tup [.int x, .int y])) (h2 : H b = some (.tup [.int x, .int y])) (q : Q (.bl true) H) : rEqD K (.ref a) (.ref b) H Q :=
  ⟨.tuple [.int x, .int y], .tuple [.int x, .int y], .tup (SqT.of h1) (.cons (.int _) (.cons (.int _) .nil)), .tup (SqT.of h2) (.cons (.int _) (.cons (.int _) .nil)), rfl, rfl, by rw [show PyData.eqv (.tuple [.int x, .int y]) (.tuple [.int x, .int y]) = true by simp [PyData.eqv, PyData.eqvAll]]; exact q⟩
theorem ask_i3 {K : PySem.W.Frag} {H : Hp} {a b : Addr} {x y z : Int} {Q : VK} (h1 : H a = some (.tup [.int x, .int y, .int z])) (h2 : H b = some (.tup [.int x, .int y, .int z])) (q : Q (.bl true) H) : rEqD K (.ref a) (.ref b) H Q :=
  ⟨.tuple [.int x, .int y, .int z], .tuple [.int x, .int y, .int z], .tup (SqT.of h1) (.cons (.int _) (.cons (.int _) (.cons (.int _) .nil))), .tup (SqT.of h2) (.cons (.int _) (.cons (.int _) (.cons (.int _) .nil))), rfl, rfl, by rw [show PyData.eqv (.tuple [.int x, .int y, .int z]) (.tuple [.int x, .int y, .int z]) = true by simp [PyData.eqv, PyData.eqvAll]]; exact q⟩
section
variable {P : Program} {w : World} {K : PySem.W.Frag} {mg : Str → Option Value} {base : Heap}
theorem sc_law_is_shown : FnScope ["kinds", "moments", "tolds", "name", "pair", "told", "found", "moment", "played", "rows"] ["kinds", "moments", "tolds", "name", "pair", "told"] (defScope s_law_is_shown) := ⟨rfl, rfl, rfl, by decide +kernel, rfl, by decide +kernel, by decide +kernel⟩
theorem ok_shj (D : DefK K mg "_law_is_shown" s_law_is_shown) (T : TxP K mg) (G_law_played : Cal P w K mg base CX0 4 "_law_played" spPlayed) (G_law_vouched : Cal P w K mg base CX0 1 "_law_vouched" (spVou K)) : Cal P w K mg base CX0 5 "_law_is_shown" spShJ := by
  refine D.cal sc_law_is_shown (fun _ _ _ _ _ _ us hl => match us, hl with | [_, _, _, _, _, _], _ => rfl) (fun vs H Q E h => ?_) fun f cdv A outer s H vs Q E hr h => ?_
  · unfold spShJ at h; obtain ⟨lk, lm, tm, lt, kr, ms, mcs, mc, ps, pm, pw, n1, n2, a1, a2, tq, d1, d2, T9, te, tp, rfl, _⟩ := h; rfl
  · unfold spShJ at h; obtain ⟨lk, lm, tm, lt, kr, ms, mcs, mc, ps, pm, pw, n1, n2, a1, a2, tq, d1, d2, T9, te, tp, rfl, L9, eT, ee, ep, k⟩ := h
    have hu : (A.deeper (envOfC "_law_is_shown" (defScope s_law_is_shown) s.heap.objs.size f cdv)).units + 64 < cLine := hr.units
    refine ⟨_, (C8.pss_cut (ps_if (PW.pt (pw_or (pt_not (pt_val (pe_callB call_isi (by rfl) T.b_isinstance (by decide +kernel) (pa_cons (pv 5) (pa_cons (pe_ty (n := "tuple") (by rfl) T.b_tuple (by decide +kernel)) pa_nil))))) (pw_or (pt_cmpR op_ne (pe_callB call_len_seq (by rfl) T.b_len (by decide +kernel) (pa_cons (pv 5) pa_nil)) pe_int (nomark _)) (pw_or (pt_cmpR (op_neD hu) (pe_ix (r := rIxT K) ix_tup (pv 5) pe_int (fun _ _ => rfl)) (pe_tup pa_nil) (nomark _)) (pw_or1 (pt_not (pt_val (pe_callB call_isi (by rfl) T.b_isinstance (by decide +kernel) (pa_cons (pe_ix (r := rIxT K) ix_tup (pv 5) pe_int (fun _ _ => rfl)) (pa_cons (pe_ty (n := "tuple") (by rfl) T.b_tuple (by decide +kernel)) pa_nil)))))))))) (pss_one (ps_ret pe_bl)) pss_nil)
      (C8.pss_cut (ps_set (i := 6) sc_law_is_shown.nd rfl (Or.inl rfl) (pe_c G_law_played hr (by decide) rfl (pa_cons (pv 0) (pa_cons (pv 1) (pa_cons (pv 2) (pa_cons (pe_ix (r := rIxT K) ix_tup (pv 5) pe_int (fun _ _ => rfl)) pa_nil))))))
      (C8.pss_cut (ps_if (PW.pt (pw_or (pt_cmpR op_isN (pv 6) pe_non (nomark _)) (pw_or (pt_cmpR (op_eqB (rcB_list mon_flB eqB_flat) (hr.mono (by decide))) (pv 6) (pe_lst pa_nil) (nomark _)) (pw_or (pt_cmpR op_gt (pe_callB call_len_seq (by rfl) T.b_len (by decide +kernel) (pa_cons (pv 6) pa_nil)) pe_int (nomark _)) (pw_or1 (pt_cmpR (op_eqD hu) (pe_ix (r := rIxT K) ix_tup (pe_ix (r := rIxT K) ix_tup (pe_ix (r := rIxT K) ix_tup (pv 5) pe_int (fun _ _ => rfl)) (pe_un un_neg pe_int) (fun _ _ => rfl)) pe_int (fun _ _ => rfl)) (pe_tup pa_nil) (nomark _))))))) (pss_one (ps_ret pe_bl)) pss_nil)
      (C8.pss_cut (ps_par (i := 7) (j := 8) (by rfl) sc_law_is_shown.nd rfl rfl (by decide) rfl rfl (pa_cons (pe_ix (r := rIxT K) ix_tup (pe_ix (r := rIxT K) ix_tup (pe_ix (r := rIxT K) ix_tup (pe_ix (r := rIxT K) ix_tup (pe_ix (r := rIxT K) ix_tup (pv 5) pe_int (fun _ _ => rfl)) (pe_un un_neg pe_int) (fun _ _ => rfl)) pe_int (fun _ _ => rfl)) (pe_un un_neg pe_int) (fun _ _ => rfl)) pe_int (fun _ _ => rfl)) (pa_cons (pe_ix (r := rIxL K) ix_list (pv 6) (pe_un un_neg pe_int) (fun _ _ => rfl)) pa_nil)) (by rfl))
      (C8.pss_cut (ps_if (pt_cmpR op_ne (pe_ix (r := rIxT K) ix_tup (pv 8) pe_int (fun _ _ => rfl)) (pv 3) (nomark _)) (pss_one (ps_ret pe_bl)) pss_nil)
      (pss_cons (ps_if (pt_val (pe_c G_law_vouched hr (by decide) rfl (pa_cons (pe_ix (r := rIxL K) ix_list (pv 2) (pe_ix (r := rIxT K) ix_tup (pv 4) pe_int (fun _ _ => rfl)) (fun _ _ => rfl)) (pa_cons (pe_ix (r := rIxL K) ix_list (pv 2) (pe_ix (r := rIxT K) ix_tup (pv 4) pe_int (fun _ _ => rfl)) (fun _ _ => rfl)) pa_nil)))) (pss_cons (ps_set (i := 9) sc_law_is_shown.nd rfl (Or.inl rfl) (pe_ix (r := rIxT K) ix_tup (pv 8) pe_int (fun _ _ => rfl)))
      (pss_one (ps_ret (pe_and (pe_cmpR op_gt (pe_callB call_len_seq (by rfl) T.b_len (by decide +kernel) (pa_cons (pv 9) pa_nil)) pe_int (nomark _)) (pe_and (pe_cmpR (op_eqD hu) (pe_ix (r := rIxL K) ix_list (pv 9) (pe_un un_neg pe_int) (fun _ _ => rfl)) (pe_tup (pa_cons (pv 7) (pa_cons (pe_ix (r := rIxT K) ix_tup (pv 4) pe_int (fun _ _ => rfl)) pa_nil))) (nomark _)) (pe_and (pe_cmpR op_eq (pe_ix (r := rIxT K) ix_tup (pe_ix (r := rIxL K) ix_list (pv 9) (pe_un un_neg pe_int) (fun _ _ => rfl)) pe_int (fun _ _ => rfl)) (pe_ix (r := rIxT K) ix_tup (pv 4) pe_int (fun _ _ => rfl)) (nomark _)) (pe_one (pe_cmpR op_isN (pe_ix (r := rIxT K) ix_tup (pv 8) pe_int (fun _ _ => rfl)) pe_non (nomark _))))))))) pss_nil)
      (pss_one (ps_ret (pe_cmpR (op_eqD hu) (pe_ix (r := rIxT K) ix_tup (pv 8) pe_int (fun _ _ => rfl)) (pe_tup (pa_cons (pv 7) (pa_cons (pe_ix (r := rIxT K) ix_tup (pv 4) pe_int (fun _ _ => rfl)) (pa_cons (pe_ix (r := rIxT K) ix_tup (pv 4) pe_int (fun _ _ => rfl)) pa_nil)))) (nomark _)))))))))), ?_⟩
    refine ⟨fun σ' H' => σ' = [some (.ref lk), some (.ref lm), some (.ref lt), some (.str mc.z), some (.ref tp), some (.ref T9), none, none, none, none] ∧ Same H H', ?_, ?_⟩
    · refine ⟨_, rfl, .ref T9, .ty "tuple", _, _, true, rfl, .ty "tuple", .base (.tup eT), kit_ty (by decide +kernel), true, rfl, iteFe rfl ?_⟩
      refine ⟨_, rfl, T9, _, rfl, .inr (SqT.of eT), rfl, _, rfl, iteFe rfl ?_⟩
      refine ⟨_, rfl, T9, _, 1, _, rfl, rfl, SqT.of eT, atI_nat (j := 1) rfl, by show 0 ≤ sizeLine; decide, fun l0 n0 => ?_⟩
      have g0 := same_new (o := .tup []) n0
      refine ask_mt (g0 _ _ ee) upd_same ⟨_, rfl, iteFe rfl ?_⟩
      refine ⟨_, rfl, T9, _, 0, _, rfl, rfl, SqT.of (g0 _ _ eT), atI_nat (j := 0) rfl, .ref tm, .ty "tuple", _, _, true, rfl, .ty "tuple", .base (.tup (g0 _ _ L9.et)), kit_ty (by decide +kernel), true, rfl, iteFe rfl ⟨rfl, g0⟩⟩
    rintro _ H1 ⟨rfl, s1⟩
    refine ⟨fun σ' H' => ∃ (l : Addr) (qs : List Plr) (t ls : Addr), σ' = [some (.ref lk), some (.ref lm), some (.ref lt), some (.str mc.z), some (.ref tp), some (.ref T9), some (.ref l), none, none, none] ∧ Same H H' ∧ H' l = some (.lst (qs.map Plr.v ++ [.ref t])) ∧ qs.length = mcs.length ∧ LaAt H' t ls mc.z mc.b (n1 : Int) pm (n2 : Int) (gZ kr mc.z) (vouB d1 d2), ?_, ?_⟩
    · have up : ∀ (Q2 : VK), (∀ (l : Addr) (qs : List Plr) (t ls : Addr) (H' : Hp), H1 l = none → Same H1 H' → H' l = some (.lst (qs.map Plr.v ++ [.ref t])) → qs.length = mcs.length → LaAt H' t ls mc.z mc.b (n1 : Int) pm (n2 : Int) (gZ kr mc.z) (vouB d1 d2) → Q2 (.ref l) H') → spPlayed [.ref lk, .ref lm, .ref lt, .ref tm] H1 Q2 E0 := fun Q2 k2 => by
        unfold spPlayed
        exact ⟨lk, lm, tm, lt, kr, ms, mcs, mc, ps, pm, pw, n1, n2, a1, a2, tq, d1, d2, rfl, L9.same s1, k2⟩
      refine ⟨_, rfl, _, rfl, _, rfl, _, rfl, T9, _, 0, _, rfl, rfl, SqT.of (s1 _ _ eT), atI_nat (j := 0) rfl, up _ fun l qs t ls H2 nl s2 e2 ql la => ?_⟩
      exact ⟨l, qs, t, ls, rfl, s1.trans s2, e2, ql, la⟩
    rintro _ H2 ⟨l, qs, t, ls, rfl, s2, e2, ql, la⟩
    obtain ⟨ov, lp, c1, c2, pt, c3, c4⟩ := (L9.la.same s2).ex
    have l38 := L9.l40
    have eT2 := s2 _ _ eT
    have et2 := s2 _ _ L9.et
    have ep2 := s2 _ _ ep
    refine ⟨fun σ' H' => σ' = [some (.ref lk), some (.ref lm), some (.ref lt), some (.str mc.z), some (.ref tp), some (.ref T9), some (.ref l), none, none, none] ∧ Same H2 H', ?_, ?_⟩
    · refine ⟨_, rfl, rfl, _, rfl, iteF ?_⟩
      refine ⟨_, rfl, by show 0 ≤ sizeLine; decide, fun l0 n0 => ?_⟩
      have g0 := same_new (o := .lst []) n0
      refine ⟨_, len_eq0 (g0 _ _ e2) upd_same, fun H4 x4 => ⟨_, rfl, iteFe (decide_eq_false (by simp)) ?_⟩⟩
      have s4 := g0.trans x4
      refine ⟨_, rfl, l, _, rfl, .inl (SqL.of (s4 _ _ e2)), _, _, rfl, rfl, _, rfl, iteFe (decide_eq_false (by rw [List.length_append, List.length_map]; show ¬ (40 : Int) < ((qs.length + 1 : Nat) : Int); omega)) ?_⟩
      refine ⟨_, rfl, T9, _, 0, _, rfl, rfl, SqT.of (s4 _ _ eT2), atI_nat (j := 0) rfl, 1, rfl, tm, _, _, .ref mc.t, rfl, rfl, SqT.of (s4 _ _ et2), atI_last _ _, mc.t, _, 3, _, rfl, rfl, SqT.of (s4 _ _ c1), atI_nat (j := 3) rfl, by show 0 ≤ sizeLine; decide, fun l1 n1' => ?_⟩
      have g1 := same_new (o := .tup []) n1'
      exact ask_pl (g1 _ _ (s4 _ _ c3)) (g1 _ _ (s4 _ _ c4)) upd_same ⟨_, rfl, iteFe rfl ⟨rfl, s4.trans g1⟩⟩
    rintro _ H3 ⟨rfl, s3⟩
    refine ⟨fun σ' H' => σ' = [some (.ref lk), some (.ref lm), some (.ref lt), some (.str mc.z), some (.ref tp), some (.ref T9), some (.ref l), some (.int pm), some (.ref t), none] ∧ H' = H3, ?_, ?_⟩
    · exact ⟨_, rfl, T9, _, 0, _, rfl, rfl, SqT.of (s3 _ _ eT2), atI_nat (j := 0) rfl, 1, rfl, tm, _, _, .ref mc.t, rfl, rfl, SqT.of (s3 _ _ et2), atI_last _ _, mc.t, _, 3, _, rfl, rfl, SqT.of (s3 _ _ c1), atI_nat (j := 3) rfl, 1, rfl, lp, _, _, .ref pt, rfl, rfl, SqT.of (s3 _ _ c3), atI_last [] _, pt, _, 0, _, rfl, rfl, SqT.of (s3 _ _ c4), atI_nat (j := 0) rfl, _, rfl, 1, rfl, l, _, _, .ref t, rfl, rfl, SqL.of (s3 _ _ e2), atI_last _ _, _, _, rfl, rfl, rfl⟩
    rintro _ HX ⟨rfl, eHX⟩
    rw [eHX]
    clear eHX HX
    obtain ⟨t1, lkv, rv, f1, f2, f3⟩ := la.ex
    refine ⟨fun σ' H' => σ' = [some (.ref lk), some (.ref lm), some (.ref lt), some (.str mc.z), some (.ref tp), some (.ref T9), some (.ref l), some (.int pm), some (.ref t), none] ∧ H' = H3, ?_, ?_⟩
    · exact ⟨_, rfl, t, _, 0, _, rfl, rfl, SqT.of (s3 _ _ f1), atI_nat (j := 0) rfl, _, rfl, rfl, _, rfl, iteFe (by simp) ⟨rfl, rfl⟩⟩
    rintro _ HX ⟨rfl, eHX⟩
    rw [eHX]
    clear eHX HX
    have s23 := s2.trans s3
    refine ⟨_, rfl, _, rfl, tp, _, 0, _, rfl, rfl, SqT.of (s3 _ _ ep2), atI_nat (j := 0) rfl, lt, _, _, .ref a1, rfl, rfl, SqL.of (s23 _ _ L9.el), atI_nat (j := n1) (by rw [List.getElem?_map, L9.q1]; rfl), _, rfl, _, rfl, tp, _, 1, _, rfl, rfl, SqT.of (s3 _ _ ep2), atI_nat (j := 1) rfl, lt, _, _, .ref a2, rfl, rfl, SqL.of (s23 _ _ L9.el), atI_nat (j := n2) (by rw [List.getElem?_map, L9.q2]; rfl), ?_⟩
    refine ⟨a1, a2, d1, d2, rfl, L9.t1.same s23, L9.t2.same s23, L9.few, fun H6 s6 => ⟨_, rfl, ?_⟩⟩
    have s36 := s3.trans s6
    rcases f3 with ⟨vb, rfl, t2, f4, f5⟩ | ⟨vb, f4, q3, rfl, f5⟩
    · rw [vb]
      refine iteT ⟨_, rfl, t, _, 1, _, rfl, rfl, SqT.of (s36 _ _ f1), atI_nat (j := 1) rfl, ?_⟩
      refine ⟨_, rfl, ls, _, rfl, .inl (SqL.of (s36 _ _ f4)), _, _, rfl, rfl, _, rfl, iteTe rfl ?_⟩
      refine ⟨_, rfl, 1, rfl, ls, _, _, .ref t2, rfl, rfl, SqL.of (s36 _ _ f4), atI_last [.ref t1] _, _, rfl, _, rfl, tp, _, 1, _, rfl, rfl, SqT.of (s36 _ _ ep2), atI_nat (j := 1) rfl, by show 2 ≤ sizeLine; decide, fun l7 n7 => ?_⟩
      have g7 := same_new (o := .tup [.int pm, .int (n2 : Int)]) n7
      have s37 := s36.trans g7
      refine ask_i2 (g7 _ _ (s36 _ _ f5)) upd_same ⟨_, rfl, iteTe rfl ?_⟩
      refine ⟨_, rfl, 2, rfl, ls, _, _, .ref t1, rfl, rfl, SqL.of (s37 _ _ f4), (show atI [V.ref t1, V.ref t2] (-2) = some (.ref t1) from rfl), t1, _, 1, _, rfl, rfl, SqT.of (s37 _ _ f2), atI_nat (j := 1) rfl, _, rfl, tp, _, 0, _, rfl, rfl, SqT.of (s37 _ _ ep2), atI_nat (j := 0) rfl, rfl, _, rfl, iteTe (decide_eq_true rfl) ?_⟩
      exact ⟨_, rfl, t, _, 3, _, rfl, rfl, SqT.of (s37 _ _ f1), atI_nat (j := 3) rfl, rfl, k _ (s2.trans s37)⟩
    · rw [vb]
      refine iteF ?_
      refine ⟨_, rfl, t, _, 3, _, rfl, rfl, SqT.of (s36 _ _ f1), atI_nat (j := 3) rfl, _, rfl, _, rfl, tp, _, 0, _, rfl, rfl, SqT.of (s36 _ _ ep2), atI_nat (j := 0) rfl, _, rfl, tp, _, 1, _, rfl, rfl, SqT.of (s36 _ _ ep2), atI_nat (j := 1) rfl, by show 3 ≤ sizeLine; decide, fun l7 n7 => ?_⟩
      have g7 := same_new (o := .tup [.int pm, .int (n1 : Int), .int (n2 : Int)]) n7
      have s37 := s36.trans g7
      exact ask_i3 (g7 _ _ (s36 _ _ f5)) upd_same (k _ (s2.trans s37))
end
end K26
namespace K26
open PySem PySem.Spec PyProof.Rows L2 Jg
local macro_rules | `(tactic| walk_at "rd1") => `(tactic| (first
  | refine ⟨_, rfl, ?_⟩
  | refine ⟨_, _, rfl, rfl, ?_⟩
  | refine ⟨_, _, rfl, ?_⟩
  | refine ⟨rfl, ?_⟩
  | (refine ⟨show (0 : Int) < _ by omega, ?_⟩)
  | (refine ⟨Or.inl ⟨by omega, by omega⟩, ?_⟩)
  | (refine ⟨Or.inr ⟨by omega, by omega⟩, ?_⟩)
  | (refine ⟨(⟨by decide, by decide, by decide⟩ : CPow _ _), ?_⟩)
  | refine Or.inl ⟨_, rfl, ?_⟩
  | refine Or.inr ⟨_, rfl, ?_⟩
  | fail "rd"))
local macro_rules | `(tactic| walk_at "rd") => `(tactic| repeat' walk_at "rd1")
open K26C (StA SameB Wd hid hid_in hid_get hid_same hid_mut)
def rowT (a x : Str) : List V := [.str a, .str x]
def ExF (K : PySem.W.Frag) (CU CE : Addr) (Q : VK) : XK := fun cls d H =>
  (∃ dd y tx, cls = .ref CU ∧ d = some dd ∧ H dd = some (.xd [(("name" : Str), y)]) ∧ Shw K H y tx ∧ ∀ l, H l = none → Q (.ref l) (upd H l (.lst (rowT "name" tx)))) ∨
  (∃ dd y tx, cls = .ref CE ∧ d = some dd ∧ H dd = some (.xd [(("number" : Str), y)]) ∧ Shw K H y tx ∧ ∀ l, H l = none → Q (.ref l) (upd H l (.lst (rowT "edition" tx))))
def TTF (K : PySem.W.Frag) (CU CE : Addr) : (XK → Hp → VK → Prop) → Hp → VK → Prop := fun tl H Q => tl (ExF K CU CE Q) H fun _ H' => Q (.str "none") H'
def tTry (tb : WX → TS) (w : Ends → WX) : TS := fun D σ H => tb (w D) D σ H
theorem ps_tryT {X : Cx} {Wout : WX} {body : List Stmt} {h₀ : ExceptHandler} {hds : List ExceptHandler} {w : Ends → WX} {pos : Pos} {tb : WX → TS} (hd : Hds X Wout (h₀ :: hds) w) (hs : X.stack = X.env :: X.outer) (fr : X.env.frame = some X.env.locals) (hN : X.N.Nodup) (tk : Takes X Wout)
    (hb : ∀ (W : WX) (pn : List (Addr × Obj)) (xe : Value → Shared → Prop), Takes (X.tr pn xe) W → PassesOwn (model X.prog X.w) X.A X.env xe → PSs (X.tr pn xe) body (tb W)) :
    PS X (.Try body (h₀ :: hds) [] [] pos) (tTry tb w) := ps_try hd hs fr hN tk hb
theorem sc_law_failed : FnScope ["call", "e"] ["call"] (defScope s_law_failed) := ⟨rfl, rfl, rfl, by decide +kernel, rfl, by decide +kernel, by decide +kernel⟩
theorem gives_failed {X : Cx} {CU CE : Addr} {st1 st2 : Stmt} (T : TxP X.K X.mg) (U : K26F.ExnQ X.K X.mg "UnknownName" CU "UnknownName.__init__" st1 "name") (I : K26F.ExnQ X.K X.mg "UnknownEdition" CE "UnknownEdition.__init__" st2 "number") (W9 : TstF X.K CU CE) (hr : Room 1 X.A) (g : X.A.guards = some []) (q : Str) (gg : Addr) (cdg : Value) :
    LamX.GivesTo X ["call", "e"] "_law_failed" (defScope s_law_failed) gg cdg (defBody s_law_failed) "call" q (TTF X.K CU CE) := by
  intro f c' s H Q tl act hc h
  have hu : (X.A.deeper (envOfC "_law_failed" (defScope s_law_failed) s.heap.objs.size gg cdg)).units + 64 < cLine := (hr.deeper _).units
  have g' : (X.A.deeper (envOfC "_law_failed" (defScope s_law_failed) s.heap.objs.size gg cdg)).guards = some [] := guards_deeper g
  have hrep : ∀ (a : Addr) (oe : Obj) (pn : List (Addr × Obj)), CallR ((cxOf CX0 X.prog X.w X.K X.mg X.base ["call", "e"] "_law_failed" (defScope s_law_failed) gg cdg X.A X.stack s H E0).nox.suite a ((a, oe) :: pn)) (.builtin "repr") (rShw X.K) := fun a oe pn => call_shw g' hu
  refine ⟨_, pss_cons (ps_tryT (X := (cxOf CX0 X.prog X.w X.K X.mg X.base ["call", "e"] "_law_failed" (defScope s_law_failed) gg cdg X.A X.stack s H E0).nox)
      (tb := fun W D σ H => ∃ Ech : XK, (∀ cls d σ' H', Ech cls d H' → σ'.length = 2 → W cls d σ' H') ∧ σ[0]? = some (some (.ref f)) ∧ H c' = some (LamX.CodeO c' q) ∧ tl Ech H fun _ H' => D.nx σ H')
      (.named (i := 1) rfl rfl ⟨rfl, by decide, .inl U.mg_⟩ (fun a oe cls d pn hz hf => pss_one (ps_ret (pe_lst (pa_cons pe_str (pa_cons (pe_callB (hrep a oe pn) (by rfl) T.b_repr (by decide +kernel) (pa_cons (pe_xf U.xk.xf U.no hz hf (pv 1)) pa_nil)) pa_nil)))))
      (.named (i := 1) rfl rfl ⟨rfl, by decide, .inl I.mg_⟩ (fun a oe cls d pn hz hf => pss_one (ps_ret (pe_lst (pa_cons pe_str (pa_cons (pe_callB (hrep a oe pn) (by rfl) T.b_repr (by decide +kernel) (pa_cons (pe_xf I.xk.xf I.no hz hf (pv 1)) pa_nil)) pa_nil))))) .cut))
      rfl rfl sc_law_failed.nd takes0 (fun W pn xe tk _ => ⟨fun pins s' σ H' D I h' => by
        obtain ⟨Ech, hW, h1, h2, h3⟩ := h'
        exact (pss_one (ps_expr (act _ pn xe Ech _ _ (Jg.Takes.sized tk) hW))).run pins s' σ H' D I ⟨h1, h2, h3⟩⟩))
    (pss_one (ps_ret pe_str)), ?_⟩
  refine ⟨ExF X.K CU CE Q, ?_, rfl, hc, h⟩
  rintro cls d σ' H' hx ls
  obtain ⟨s0, s1, rfl⟩ : ∃ s0 s1, σ' = [s0, s1] := by
    match σ', ls with
    | [a, b], _ => exact ⟨a, b, rfl⟩
  rcases hx with ⟨dd, y, tx, rfl, rfl, ed, sh, k⟩ | ⟨dd, y, tx, rfl, rfl, ed, sh, k⟩
  · refine ⟨true, U.te, fun _ a na => ?_, fun z => nomatch z⟩
    exact ⟨_, rfl, rfl, rfl, dd, _, y, rfl, ed, rfl, y, tx, rfl, sh, by show 2 ≤ sizeLine; decide, fun l nl => k l nl⟩
  · refine ⟨false, W9.xEU, (fun z => nomatch z), fun _ => ⟨true, I.te, fun _ a na => ?_, fun z => nomatch z⟩⟩
    exact ⟨_, rfl, rfl, rfl, dd, _, y, rfl, ed, rfl, y, tx, rfl, sh, by show 2 ≤ sizeLine; decide, fun l nl => k l nl⟩
open K26C (hid hid_in hid_get hid_same hid_mut)
theorem hid_nil {H : Hp} : hid [] H = H := funext fun q => if_neg (by simp)
structure GvA (H0 : Hp) (σ : L2.St) (t : TA) (Ps : List (Hp → V → Prop)) : Prop where
  mo : ∀ P ∈ Ps, Mono P
  run : ∀ (M : List Addr) (H : Hp) (Q : List V → Hp → Prop), Same H0 (hid M H) → (∀ q ∈ M, H q ≠ none) → (∀ vs H', Same H H' → Paired (fun v P => P (hid M H') v) vs Ps → Q vs H') → t σ H Q
theorem par_mono {H H' : Hp} (s : Same H H') : ∀ {vs : List V} {Ps : List (Hp → V → Prop)}, (∀ P ∈ Ps, Mono P) → Paired (fun v P => P H v) vs Ps → Paired (fun v P => P H' v) vs Ps
  | _, _, _, .nil => .nil
  | _, _, m, .cons a r => .cons (m _ List.mem_cons_self _ _ _ s a) (par_mono s (fun P h => m P (List.mem_cons_of_mem _ h)) r)
theorem par_len {F : V → (Hp → V → Prop) → Prop} : ∀ {vs : List V} {Ps : List (Hp → V → Prop)}, Paired F vs Ps → vs.length = Ps.length
  | _, _, .nil => rfl
  | _, _, .cons _ r => by rw [List.length_cons, List.length_cons, par_len r]
theorem gva_nil {H0 : Hp} {σ : L2.St} : GvA H0 σ tNil [] := ⟨(fun _ h => nomatch h), fun M H Q s n q => q [] H (.refl _) .nil⟩
theorem gva_cons {H0 : Hp} {σ : L2.St} {te : TE} {t : TA} {P : Hp → V → Prop} {Ps : List (Hp → V → Prop)} (h : Gv H0 σ te P) (r : GvA H0 σ t Ps) : GvA H0 σ (tCons te t) (P :: Ps) :=
  ⟨fun R hR => (List.mem_cons.mp hR).elim (fun e => e ▸ h.mo) (r.mo R), fun M H Q s n q => h.run M H _ s n fun v H1 s1 p1 => r.run M H1 _ (s.trans (hid_keep s1)) (fun x hx z => by
    cases c : H x with
    | none => exact n x hx c
    | some o => rw [s1 _ _ c] at z; cases z) fun vs H2 s2 p2 => q (v :: vs) H2 (s1.trans s2) (.cons (h.mo _ _ _ (hid_keep s2) p1) p2)⟩
theorem gv_c {H0 : Hp} {σ : L2.St} {v : V} {P : Hp → V → Prop} (mo : Mono P) (h : ∀ H, Same H0 H → P H v) : Gv H0 σ (tC v) P := ⟨mo, fun M H Q s _ q => q v H (.refl _) (h _ s)⟩
theorem gv_seq {H0 : Hp} {σ : L2.St} {te : TE} {t : TA} {P : Hp → V → Prop} {Ps : List (Hp → V → Prop)} {o : List V → HO} (mo : Mono P) (h : GvA H0 σ t Ps)
    (ht : ∀ H Q, t σ H (fun xs H1 => xs.length ≤ sizeLine ∧ ∀ p, H1 p = none → Q (.ref p) (upd H1 p (o xs))) → te σ H Q) (few : Ps.length ≤ 1000) (k : ∀ H p vs, Same H0 H → H p = some (o vs) → Paired (fun v P => P H v) vs Ps → P H (.ref p)) : Gv H0 σ te P :=
  ⟨mo, fun M H Q s n q => ht H Q (h.run M H _ s n fun vs H1 s1 p1 => ⟨by rw [par_len p1, sizeLine_eq]; omega, fun p np => q _ _ (same_new' s1 np) (k _ _ vs (s.trans (hid_keep (same_new' s1 np))) (hid_in upd_same (fun z => n p z (s1.free np))) (par_mono (hid_keep (same_new np)) h.mo p1))⟩)⟩
theorem gv_tup {H0 : Hp} {σ : L2.St} {t : TA} {P : Hp → V → Prop} {Ps : List (Hp → V → Prop)} (mo : Mono P) (h : GvA H0 σ t Ps) (few : Ps.length ≤ 1000) (k : ∀ H p vs, Same H0 H → H p = some (.tup vs) → Paired (fun v P => P H v) vs Ps → P H (.ref p)) : Gv H0 σ (tTup t) P :=
  gv_seq (o := .tup) mo h (fun _ _ z => z) few k
theorem mono_eq {y : V} : Mono (fun _ v => v = y) := fun _ _ _ _ h => h
theorem gva_go {H0 : Hp} {σ : L2.St} {t : TA} {Ps : List (Hp → V → Prop)} {Q : List V → Hp → Prop} (g : GvA H0 σ t Ps) (k : ∀ vs H', Same H0 H' → Paired (fun v P => P H' v) vs Ps → Q vs H') : t σ H0 Q :=
  g.run [] H0 Q (by rw [hid_nil]; exact .refl _) (fun _ h => nomatch h) fun vs H' s p => k vs H' s (by rw [hid_nil] at p; exact p)
theorem par_rep {H : Hp} {P : Hp → V → Prop} : ∀ {n : Nat} {vs : List V}, Paired (fun v P => P H v) vs (List.replicate n P) → ∀ v ∈ vs, P H v
  | 0, _, .nil, _, h => nomatch h
  | n + 1, _, .cons a r, v, h => (List.mem_cons.mp h).elim (fun e => e ▸ a) (par_rep r v)
theorem gvl_go {H0 : Hp} {σ : L2.St} {t : TA} {Ps : List (Hp → V → Prop)} {Q : VK} (g : GvA H0 σ t Ps) (few : Ps.length ≤ 1000) (k : ∀ l vs H', H0 l = none → Same H0 H' → H' l = some (.lst vs) → Paired (fun v P => P H' v) vs Ps → Q (.ref l) H') : tLst t σ H0 Q :=
  gva_go g fun vs H1 s1 p => ⟨by rw [par_len p, sizeLine_eq]; omega, fun l nl => k l vs _ (s1.free nl) (same_new' s1 nl) upd_same (par_mono (same_new nl) g.mo p)⟩
def noT (H : Hp) : Hp := fun b => match H b with | some (.tbl _) => none | o => o
theorem noT_at {H : Hp} {p : Addr} {o : HO} (h : H p = some o) (n : ∀ ps, o ≠ .tbl ps) : noT H p = some o := by
  unfold noT
  rw [h]
  cases o with
  | tbl ps => exact absurd rfl (n ps)
  | _ => rfl
theorem noT_get {H : Hp} {p : Addr} {o : HO} (h : noT H p = some o) : H p = some o ∧ ∀ ps, o ≠ .tbl ps := by
  unfold noT at h
  cases e : H p with
  | none => rw [e] at h; cases h
  | some u =>
    rw [e] at h
    cases u with
    | tbl ps => cases h
    | _ => (cases h; exact ⟨rfl, fun ps z => nomatch z⟩)
theorem noT_same {H : Hp} : Same (noT H) H := fun b o e => (noT_get e).1
theorem noT_keep {H H' : Hp} (s : Same H H') : Same (noT H) (noT H') := fun b o e => noT_at (s _ _ (noT_get e).1) (noT_get e).2
theorem noT_ext {H H' : Hp} (s : LamX.ExtN H H') : Same (noT H) (noT H') := fun b o e => noT_at (s _ _ (noT_get e).1 (noT_get e).2) (noT_get e).2
def Mo (P : Hp → V → Prop) : Hp → V → Prop := fun H v => P (noT H) v
theorem mono_mo {P : Hp → V → Prop} (h : Mono P) : Mono (Mo P) := fun _ _ _ s q => h _ _ _ (noT_keep s) q
theorem okd {x : Str} (h : PyData.strOk x = true) : okW x := h
theorem fc_str {z : Str} (h : Low z) : Fc (.str z) := fun c hc => by
  rw [PyData.shown_str, tl_repr h] at hc
  rcases List.mem_cons.mp hc with rfl | hc
  · decide
  rcases List.mem_append.mp hc with hc | hc
  · have := h c hc; omega
  · rw [List.mem_singleton.mp hc]; decide
def PN (K : PySem.W.Frag) (ks : K26F.Ks) : Hp → V → Prop := fun H y => K26F.NoKind K H ks y ∧ ShwF K H y
def PB (K : PySem.W.Frag) (hi : Int) : Hp → V → Prop := fun H y => K26F.BadR K H 0 hi y ∧ ShwF K H y
theorem badR_keep {K : PySem.W.Frag} {H H' : Hp} {lo hi : Int} {y : V} (h : K26F.BadR K H lo hi y) (s : Same H H') : K26F.BadR K H' lo hi y := h.elim .inl fun n => .inr (n.keep s)
theorem mono_b {K : PySem.W.Frag} {hi : Int} : Mono (PB K hi) := fun _ _ _ s h => ⟨badR_keep h.1 s, h.2.keep s⟩
theorem gv_run {H0 : Hp} {σ : L2.St} {te : TE} {v : V} {P : Hp → V → Prop} (mo : Mono P) (run : ∀ M H (Q : VK), Same H0 (hid M H) → Q v H → te σ H Q) (h : ∀ H, Same H0 H → P H v) : Gv H0 σ te P := ⟨mo, fun M H Q s _ q => run M H Q s (q v H (.refl _) (h _ s))⟩
section
variable {K : PySem.W.Frag} {H0 : Hp} {σ : L2.St}
theorem ni_ty {H : Hp} {y : V} {t : Value} {lo hi : Int} (ty : ∀ H', Same H H' → TyX K H' y t) (k : K26F.kit K t "int" false) : K26F.BadR K H lo hi y := .inr ⟨t, false, false, ty, k, (fun z => nomatch z), rfl⟩
theorem ni_bl {H : Hp} {b : Bool} {lo hi : Int} : K26F.BadR K H lo hi (.bl b) := .inr ⟨_, true, true, fun _ _ => .base (.bl b), kit_ty (by decide +kernel), fun _ => kit_ty (by decide +kernel), rfl⟩
theorem name_zz {H : Hp} {ks : K26F.Ks} {z : Str} (wz : K26C.Wd z) : PN K ks H (.str (z ++ "zzzzzzzz")) := by
  have l := wz.2.1
  have l7 := wz.2.2
  have lz : (z ++ ("zzzzzzzz" : Str)).length = z.length + 8 := Str.length_append ..
  have low : Low (z ++ ("zzzzzzzz" : Str)) := K26C.az_app wz.1 fun c hc => by
    have hc : c ∈ [122, 122, 122, 122, 122, 122, 122, 122] := hc
    simp only [List.mem_cons, List.not_mem_nil, or_false, or_self] at hc
    omega
  refine ⟨.inl ⟨_, rfl, by rw [lz, sizeLine_eq]; omega, fun w => ?_⟩, _, (fc_str low).ok, fun H' _ => ?_⟩
  · unfold K26F.wordB at w
    rw [decide_eq_false (by rw [lz]; omega)] at w
    cases w
  · have sb : Jg.Sb (.str (z ++ ("zzzzzzzz" : Str))) 15 0 := .str (by rw [lz]; omega) fun c hc => Nat.lt_of_le_of_lt (low c hc).2 (by decide)
    have a := (sb.ask (by decide) (by decide)).2.2
    exact .str _ a
theorem one_v {v : V} : GvA H0 σ (tCons (tC v) tNil) [fun _ x => x = v] := gva_cons (gv_c (mono_eq (y := v)) (fun _ _ => rfl)) gva_nil
theorem one_o {F : (V → (Hp → V → Prop) → Prop)} {vs : List V} {P : Hp → V → Prop} (h : Paired F vs [P]) : ∃ v, vs = [v] ∧ F v P := by
  cases h with | cons a r => cases r; exact ⟨_, rfl, a⟩
theorem bad_neg {H : Hp} {hi : Int} : PB K hi H (.int (-1)) := ⟨.inl ⟨-1, rfl, rfl⟩, _, okd (by decide +kernel), fun _ _ => .int (-1) (by decide +kernel)⟩
theorem bad_non {H : Hp} {hi : Int} : PB K hi H .non := ⟨ni_ty (fun _ _ => .base .non) (kit_ty (by decide +kernel)), _, okd (by decide +kernel), fun _ _ => .non⟩
theorem bad_tru {H : Hp} {hi : Int} : PB K hi H (.bl true) := ⟨ni_bl, _, okd (by decide +kernel), fun _ _ => .bl true⟩
theorem bad_0 {H : Hp} {hi : Int} : PB K hi H (.str "0") := ⟨ni_ty (fun _ _ => .base (.str _)) (kit_ty (by decide +kernel)), _, okd (by decide +kernel), fun _ _ => .str "0" (by decide +kernel)⟩
theorem gv_t0 {hi : Int} : Gv H0 σ (tTup (tCons (tC (.int 0)) tNil)) (Mo (PB K hi)) :=
  gv_tup (mono_mo (mono_b (K := K) (hi := hi))) one_v (by simp) fun H q vs s eq h => by
    obtain ⟨v, rfl, rfl⟩ := one_o h
    have eq := noT_at eq fun _ z => nomatch z
    exact ⟨ni_ty (fun H' s' => .base (.tup (s' _ _ eq))) (kit_ty (by decide +kernel)), _, okd (by decide +kernel), fun H' s' => .dat (.tup (SqT.of (s' _ _ eq)) (.cons (.int 0) .nil)) (by decide +kernel) (by decide +kernel) (by decide +kernel)⟩
theorem gv_neg {hi : Int} : Gv H0 σ (tUn (rU fun i => V.int (-i)) (tC (V.int 1))) (Mo (PB K hi)) :=
  gv_run (v := .int (-1)) (mono_mo (mono_b (K := K) (hi := hi))) (fun M H Q _ q => ⟨1, rfl, q⟩) fun H _ => bad_neg
theorem valsB {PC C : Addr} {p : Addr} {es : List Ed} (e : σ[0]? = some (some (.ref p))) (pl : PlAt PC C H0 p es) : GvA H0 σ (tCons (tUn (rU fun i => V.int (-i)) (tC (V.int 1))) (tCons (tCB (rLenO PC (spPLen PC C) E0) (tCons (tVar 0) tNil)) (tCons (tC V.non) (tCons (tC (V.bl true)) (tCons (tC (V.str "0")) (tCons (tTup (tCons (tC (V.int 0)) tNil)) tNil))))))
    (List.replicate 6 (Mo (PB K (es.length - 1)))) := by
  have m := mono_mo (mono_b (K := K) (hi := (es.length : Int) - 1))
  have n7 := pl.ok.n7
  have n1 := pl.ok.n1
  refine gva_cons gv_neg (gva_cons (gv_run (v := .int es.length) m (fun M H Q s q => ?_) fun H _ => ⟨.inl ⟨_, rfl, ?_⟩, ?_⟩) (gva_cons (gv_c m fun _ _ => bad_non) (gva_cons (gv_c m fun _ _ => bad_tru) (gva_cons (gv_c m fun _ _ => bad_0) (gva_cons gv_t0 gva_nil)))))
  · have pl' := pl.same (s.trans hid_same)
    obtain ⟨dx, l, ex, _⟩ := id pl'.ex
    exact ⟨_, e, p, dx, _, rfl, ex, p, es, rfl, pl', es.length, rfl, by omega, by omega, q⟩
  · rw [decide_eq_true (show (0 : Int) ≤ es.length by omega), decide_eq_false (show ¬ (es.length : Int) ≤ (es.length : Int) - 1 by omega)]; rfl
  · have cs : es.length = 1 ∨ es.length = 2 ∨ es.length = 3 ∨ es.length = 4 ∨ es.length = 5 ∨ es.length = 6 ∨ es.length = 7 := by omega
    rcases cs with c | c | c | c | c | c | c <;> rw [c] <;> exact ⟨_, okd (by decide +kernel), fun _ _ => .int _ (by decide +kernel)⟩
end
end K26
namespace K26
open PySem PySem.Spec PyProof.Rows L2 Jg
local macro_rules | `(tactic| walk_at "rd1") => `(tactic| (first
  | refine ⟨_, rfl, ?_⟩
  | refine ⟨_, _, rfl, rfl, ?_⟩
  | refine ⟨_, _, rfl, ?_⟩
  | refine ⟨rfl, ?_⟩
  | (refine ⟨show (0 : Int) < _ by omega, ?_⟩)
  | (refine ⟨Or.inl ⟨by omega, by omega⟩, ?_⟩)
  | (refine ⟨Or.inr ⟨by omega, by omega⟩, ?_⟩)
  | (refine ⟨(⟨by decide, by decide, by decide⟩ : CPow _ _), ?_⟩)
  | refine Or.inl ⟨_, rfl, ?_⟩
  | refine Or.inr ⟨_, rfl, ?_⟩
  | fail "rd"))
local macro_rules | `(tactic| walk_at "rd") => `(tactic| repeat' walk_at "rd1")
open K26C (StA SameB Wd hid hid_in hid_get hid_same hid_mut)
/-- for x in [..]: the values by what holds of them -/
theorem for_gvl {K : PySem.W.Frag} {H0 : Hp} {σ : L2.St} {t : TA} {Ps : List (Hp → V → Prop)} {g : TG} {tb : TS} {D : Ends} (gv : GvA H0 σ t Ps) (few : Ps.length ≤ 1000)
    (k : ∀ l vs H1, Same H0 H1 → H1 l = some (.lst vs) → Paired (fun v P => P H1 v) vs Ps → ∃ Pv : Nat → L2.St → Hp → Prop, Pv 0 σ H1 ∧ (∀ i σ H, Pv i σ H → LamX.ExtN H1 H) ∧
      (∀ i x σ H, vs[i]? = some x → Pv i σ H → g x σ H fun σ2 H2 => tb { D with nx := Pv (i + 1), ct := Pv (i + 1), bk := D.nx } σ2 H2) ∧ ∀ σ H, Pv vs.length σ H → D.nx σ H) : tFor (iList K (tLst t)) g tb D σ H0 := by
  unfold tFor iList
  exact gvl_go gv few fun l vs H1 _ s1 el pv => ⟨l, rfl, ⟨_, SqL.of el⟩, by
    obtain ⟨Pv, h0, hx, hs, hd⟩ := k l vs H1 s1 el pv
    exact for_list (K := K) (a := l) (xs := vs) Pv h0 (fun i σ H _ h => SqL.of (hx i σ H h _ _ el (fun _ z => nomatch z))) hs hd⟩
theorem ask_two {K : PySem.W.Frag} {H : Hp} {l1 l2 : Addr} {a b : Str} {Q : VK} (n2 : upd H l1 (.lst [.str a, .str b]) l2 = none) (oa : okW a) (ob : okW b) (q : Q (.bl false) (upd (upd H l1 (.lst [.str a, .str b])) l2 (.lst [.str a, .str b]))) :
    rNeD K (.ref l1) (.ref l2) (upd (upd H l1 (.lst [.str a, .str b])) l2 (.lst [.str a, .str b])) Q := by
  have ok : ∀ z ∈ [a, b], okW z := fun z hz => by
    simp only [List.mem_cons, List.not_mem_nil, or_false] at hz
    rcases hz with rfl | rfl
    · exact oa
    · exact ob
  refine ask_neS (xs := [a, b]) (ys := [a, b]) (SqL.of (same_new n2 _ _ upd_same)) (SqL.of upd_same) ok ok ?_
  rw [decide_eq_true rfl]; exact q
theorem bd_failed : BindOk "_law_failed" "_law_failed" s_law_failed ["call"] := (fun _ _ _ _ _ _ us hl => match us, hl with | [_], _ => rfl)
theorem sc_law_refused_right : FnScope ["plan", "fleet", "name", "odd"] ["plan", "fleet", "name"] (defScope s_law_refused_right) := ⟨rfl, rfl, rfl, by decide +kernel, rfl, by decide +kernel, by decide +kernel⟩
def qlam : Str := (envOfC "_law_refused_right" (defScope s_law_refused_right) 0 0 .none).qual ++ "<lambda>"
theorem missR_all {cl : List Cl} {zs : List Str} (h : missR cl zs = none) : ∀ p ∈ cl, p.z ∈ zs := fun p hp => by
  unfold missR at h
  have z := List.find?_eq_none.mp (Option.map_eq_none_iff.mp h) p hp
  simpa using z
theorem missR_new {cl : List Cl} {zs : List Str} {q : Cl} (h : missR cl zs = none) (n : q.z ∉ zs) : missR (cl ++ [q]) zs = some q.z :=
  missR_at (i := cl.length) (by rw [List.getElem?_append_right (Nat.le_refl _), Nat.sub_self]; rfl) (fun p hp => by
    rw [List.take_append_of_le_length (Nat.le_refl _), List.take_length] at hp
    exact missR_all h p hp) n
theorem nos_shw {K : PySem.W.Frag} {H : Hp} : Shw K H (.str "nosuchro") "'nosuchro'" := by
  have e : reprText ("nosuchro" : Str) = "'nosuchro'" := by decide +kernel
  have z : Shw K H (.str "nosuchro") (reprText "nosuchro") := .str "nosuchro" (by decide +kernel)
  rw [e] at z; exact z
def spRfr (PC C FC KC : Addr) (TL : List (Addr × Str)) : Sp := fun vs H Q _ => ∃ p f z es ks cl e0, vs = [.ref p, .ref f, .str z] ∧ PlAt PC C (noT H) p es ∧ es[0]? = some e0 ∧ FlAt FC KC (noT H) f ks cl ∧ missR cl (e0.c.us.map (·.z)) = none ∧ z ∈ ks.map (·.1) ∧ Wd z ∧ LamX.Tabs TL H ∧ ∀ H', LamX.ExtN H H' → LamX.Tabs TL H' → Q (.bl true) H'
section
variable {P : Program} {w : World} {K : PySem.W.Frag} {mg : Str → Option Value} {base : Heap} {C PC FC KC CU CE c0 P0 : Addr} {st1 st2 : Stmt} {TL : List (Addr × Str)}
theorem jrn_name {p f : Addr} {es : List Ed} {ks : K26F.Ks} {cl : List Cl} {e0 : Ed} {y y1 y2 : V} {H : Hp} {Q : VK} {E : XK} (pl : PlAt PC C H p es) (fl : FlAt FC KC H f ks cl) (h0 : es[0]? = some e0) (mr : missR cl (e0.c.us.map (·.z)) = none) (no : K26F.NoKind K H ks y)
    (k : ∀ d H', H d = none → Same H H' → H' d = some (.xd [(("name" : Str), y)]) → E (.ref CU) (some d) H') : spJRun K PC C FC KC CU CE [.ref p, .ref f, y, y1, y2] H Q E := by
  unfold spJRun
  exact ⟨p, f, es, ks, cl, y, y1, y2, e0, rfl, pl, fl, h0, .inr ⟨mr, .inl ⟨no, k⟩⟩⟩
theorem jrn_miss {p f : Addr} {es : List Ed} {ks : K26F.Ks} {cl : List Cl} {e0 : Ed} {z : Str} {y y1 y2 : V} {H : Hp} {Q : VK} {E : XK} (pl : PlAt PC C H p es) (fl : FlAt FC KC H f ks cl) (h0 : es[0]? = some e0) (mr : missR cl (e0.c.us.map (·.z)) = some z)
    (k : ∀ d H', H d = none → Same H H' → H' d = some (.xd [(("name" : Str), .str z)]) → E (.ref CU) (some d) H') : spJRun K PC C FC KC CU CE [.ref p, .ref f, y, y1, y2] H Q E := by
  unfold spJRun
  exact ⟨p, f, es, ks, cl, y, y1, y2, e0, rfl, pl, fl, h0, .inl ⟨z, mr, k⟩⟩
theorem jrn_ed1 {p f : Addr} {es : List Ed} {ks : K26F.Ks} {cl : List Cl} {e0 : Ed} {z : Str} {y1 y2 : V} {H : Hp} {Q : VK} {E : XK} (pl : PlAt PC C H p es) (fl : FlAt FC KC H f ks cl) (h0 : es[0]? = some e0) (mr : missR cl (e0.c.us.map (·.z)) = none) (mz : z ∈ ks.map (·.1)) (bad : K26F.BadR K H 0 (es.length - 1) y1)
    (k : ∀ d H', H d = none → Same H H' → H' d = some (.xd [(("number" : Str), y1)]) → E (.ref CE) (some d) H') : spJRun K PC C FC KC CU CE [.ref p, .ref f, .str z, y1, y2] H Q E := by
  unfold spJRun
  exact ⟨p, f, es, ks, cl, _, y1, y2, e0, rfl, pl, fl, h0, .inr ⟨mr, .inr ⟨z, rfl, mz, .inl ⟨bad, k⟩⟩⟩⟩
theorem jrn_ed2 {p f : Addr} {es : List Ed} {ks : K26F.Ks} {cl : List Cl} {e0 : Ed} {z : Str} {y2 : V} {H : Hp} {Q : VK} {E : XK} (pl : PlAt PC C H p es) (fl : FlAt FC KC H f ks cl) (h0 : es[0]? = some e0) (mr : missR cl (e0.c.us.map (·.z)) = none) (mz : z ∈ ks.map (·.1)) (bad : K26F.BadR K H 0 (es.length - 1) y2)
    (k : ∀ d H', H d = none → Same H H' → H' d = some (.xd [(("number" : Str), y2)]) → E (.ref CE) (some d) H') : spJRun K PC C FC KC CU CE [.ref p, .ref f, .str z, .int 0, y2] H Q E := by
  unfold spJRun
  exact ⟨p, f, es, ks, cl, _, _, y2, e0, rfl, pl, fl, h0, .inr ⟨mr, .inr ⟨z, rfl, mz, .inr ⟨0, e0, rfl, h0, .inl ⟨bad, k⟩⟩⟩⟩⟩
theorem ok_rfr (D : DefC K mg "_law_refused_right" s_law_refused_right c0) (DF : DefK K mg "_law_failed" s_law_failed) (T : TxP K mg) (PT : PTx K mg PC) (U : K26F.ExnQ K mg "UnknownName" CU "UnknownName.__init__" st1 "name") (I : K26F.ExnQ K mg "UnknownEdition" CE "UnknownEdition.__init__" st2 "number") (W9 : TstF K CU CE) (TB : LamX.TabB base mg c0 P0) (hmT : (P0, qlam) ∈ TL) (huT : ∀ p ∈ TL, p.1 = P0 → p.2 = qlam)
    (G_jump_run : Cal P w K mg base (L2.CX P w) 21 "jump_run" (spJRun K PC C FC KC CU CE)) (M_plen : Met P w K mg base CX0 1 PC "__len__" (spPLen PC C)) : CalG P w K mg base CX0 24 "_law_refused_right" (spRfr PC C FC KC TL) := by
  refine D.calG sc_law_refused_right (fun _ _ _ _ _ _ us hl => match us, hl with | [_, _, _], _ => rfl) (fun vs H Q E h => ?_) fun fn A outer s H vs Q E g hr h => ?_
  · obtain ⟨p, f, z, es, ks, cl, e0, rfl, _⟩ := h; rfl
  · obtain ⟨p, f, z, es, ks, cl, e0, rfl, pl0, e00, fl0, mr, hz, wz, t0, kQ⟩ := h
    have hu : (A.deeper (envOfC "_law_refused_right" (defScope s_law_refused_right) s.heap.objs.size fn (.ref c0))).units + 64 < cLine := hr.units
    refine ⟨_, (C8.pss_cut (ps_if (pt_cmpR (op_neD hu) (pe_lamT DF sc_law_failed bd_failed (gives_failed T U I W9 (hr.mono (by decide)) g _) TB rfl hmT huT hr (fun _ _ _ _ _ _ _ hr => pe_cS G_jump_run (takes_of rfl rfl rfl rfl) hr (by decide) rfl (pa_cons (pv 0) (pa_cons (pv 1) (pa_cons (pe_op op_add_str (pv 2) pe_str) (pa_cons (pe_un un_neg pe_int) (pa_cons pe_int pa_nil)))))) rfl rfl (.inl rfl) (show LamX.LamS (defScope s_law_refused_right) _ from LamX.lamS_by (by decide +kernel)) rfl (fun _ _ _ _ _ => rfl)) (pe_lst (pa_cons pe_str (pa_cons (pe_callB (call_shw g hu) (by rfl) T.b_repr (by decide +kernel) (pa_cons (pe_op op_add_str (pv 2) pe_str) pa_nil)) pa_nil))) (nomark _)) (pss_one (ps_ret pe_bl)) pss_nil)
      (C8.pss_cut (ps_for PassesOwn.never rfl (pi_list (pe_lst (pa_cons (pe_un un_neg pe_int) (pa_cons (pe_callB (call_lenO M_plen hr (by decide)) (by rfl) T.b_len (by decide +kernel) (pa_cons (pv 0) pa_nil)) (pa_cons pe_non (pa_cons pe_bl (pa_cons pe_str (pa_cons (pe_tup (pa_cons pe_int pa_nil)) pa_nil)))))))) (pg_name (i := 3) sc_law_refused_right.nd rfl (Or.inr rfl)) (pss_cons (ps_if (pt_cmpR (op_neD hu) (pe_lamT DF sc_law_failed bd_failed (gives_failed T U I W9 (hr.mono (by decide)) g _) TB rfl hmT huT hr (fun _ _ _ _ _ _ _ hr => pe_cS G_jump_run (takes_of rfl rfl rfl rfl) hr (by decide) rfl (pa_cons (pv 0) (pa_cons (pv 1) (pa_cons (pv 2) (pa_cons (pv 3) (pa_cons pe_str pa_nil)))))) rfl rfl (.inl rfl) (show LamX.LamS (defScope s_law_refused_right) _ from LamX.lamS_by (by decide +kernel)) rfl (fun _ _ _ _ _ => rfl)) (pe_lst (pa_cons pe_str (pa_cons (pe_callB (call_shw g hu) (by rfl) T.b_repr (by decide +kernel) (pa_cons (pv 3) pa_nil)) pa_nil))) (nomark _)) (pss_one (ps_ret pe_bl)) pss_nil)
      (pss_one (ps_if (pt_cmpR (op_neD hu) (pe_lamT DF sc_law_failed bd_failed (gives_failed T U I W9 (hr.mono (by decide)) g _) TB rfl hmT huT hr (fun _ _ _ _ _ _ _ hr => pe_cS G_jump_run (takes_of rfl rfl rfl rfl) hr (by decide) rfl (pa_cons (pv 0) (pa_cons (pv 1) (pa_cons (pv 2) (pa_cons pe_int (pa_cons (pv 3) pa_nil)))))) rfl rfl (.inl rfl) (show LamX.LamS (defScope s_law_refused_right) _ from LamX.lamS_by (by decide +kernel)) rfl (fun _ _ _ _ _ => rfl)) (pe_lst (pa_cons pe_str (pa_cons (pe_callB (call_shw g hu) (by rfl) T.b_repr (by decide +kernel) (pa_cons (pv 3) pa_nil)) pa_nil))) (nomark _)) (pss_one (ps_ret pe_bl)) pss_nil))))
      (pss_one (ps_ret pe_bl)))), ?_⟩
    have at_ : ∀ {H1 : Hp}, LamX.ExtN H H1 → PlAt PC C H1 p es ∧ FlAt FC KC H1 f ks cl := fun e1 =>
      have s := (noT_ext e1).trans noT_same
      ⟨pl0.same s, fl0.same s⟩
    refine ⟨fun σ' H' => (∃ v3, σ' = [some (.ref p), some (.ref f), some (.str z), v3]) ∧ LamX.ExtN H H' ∧ LamX.Tabs TL H', ?_, ?_⟩
    · refine ⟨t0, fun H2 e2 t2 => ?_⟩
      obtain ⟨pl2, fl2⟩ := at_ e2
      obtain ⟨no2, tx, oktx, sh⟩ := name_zz (K := K) (ks := ks) (H := H2) wz
      have l7 := wz.2.2
      have lz : z.length + ("zzzzzzzz" : Str).length ≤ sizeLine := by rw [sizeLine_eq]; show z.length + 8 ≤ _; omega
      refine ⟨_, rfl, _, rfl, _, rfl, _, _, rfl, rfl, lz, 1, rfl, jrn_name pl2 fl2 e00 mr no2 fun d' H3 nd s3 ed => .inl ⟨d', _, tx, rfl, rfl, ed, sh _ s3, fun l1 nl1 => ?_⟩⟩
      have s4 := s3.trans (same_new (o := .lst (rowT "name" tx)) nl1)
      refine ⟨_, rfl, _, _, rfl, rfl, lz, _, tx, rfl, sh _ s4, by show 2 ≤ sizeLine; decide, fun l2 nl2 => ask_two nl2 (okd (by decide +kernel)) oktx ⟨_, rfl, iteFe rfl ⟨⟨_, rfl⟩, e2.trans (LamX.ExtN.of (same_new' s4 nl2)), Tabs.same t2 (same_new' s4 nl2)⟩⟩⟩
    rintro _ HA ⟨⟨vA, rfl⟩, eA, tA⟩
    refine ⟨fun σ' H' => (∃ v3, σ' = [some (.ref p), some (.ref f), some (.str z), v3]) ∧ LamX.ExtN H H' ∧ LamX.Tabs TL H', ?_, ?_⟩
    · refine for_gvl (H0 := HA) (σ := [some (.ref p), some (.ref f), some (.str z), vA]) (valsB (K := K) rfl (at_ eA).1) (by simp) fun l vs H1 s1 el pv => ⟨fun i sg' H' => (∃ v3, sg' = [some (.ref p), some (.ref f), some (.str z), v3]) ∧ LamX.ExtN H1 H' ∧ LamX.Tabs TL H', ⟨⟨_, rfl⟩, .refl _, Tabs.same tA s1⟩, (fun i sg' H' ⟨_, e, _⟩ => e), ?_, ?_⟩
      · rintro i y sg' H' hy ⟨⟨v3, rfl⟩, e', t'⟩
        have p1 : PB K (es.length - 1) (noT H1) y := par_rep pv y (List.mem_of_getElem? hy)
        obtain ⟨tx, oktx, shN⟩ := p1.2
        refine ⟨t', fun H2 e2 t2 => ?_⟩
        have E2 := e'.trans e2
        obtain ⟨pl2, fl2⟩ := at_ (eA.trans ((LamX.ExtN.of s1).trans E2))
        have sx := (noT_ext E2).trans noT_same
        refine ⟨_, rfl, _, rfl, _, rfl, _, rfl, jrn_ed1 pl2 fl2 e00 mr hz (badR_keep p1.1 sx) fun d' H3 nd s3 ed => .inr ⟨d', y, tx, rfl, rfl, ed, shN _ (sx.trans s3), fun l1 nl1 => ?_⟩⟩
        have s4 := s3.trans (same_new (o := .lst (rowT "edition" tx)) nl1)
        refine ⟨_, rfl, y, tx, rfl, shN _ (sx.trans s4), by show 2 ≤ sizeLine; decide, fun l2 nl2 => ask_two nl2 (okd (by decide +kernel)) oktx ⟨_, rfl, iteFe rfl ?_⟩⟩
        have s5 := same_new' (o := .lst [.str "edition", .str tx]) s4 nl2
        have t5 := Tabs.same t2 s5
        have E5 := E2.trans (LamX.ExtN.of s5)
        refine ⟨t5, fun H6 e6 t6 => ?_⟩
        have E6 := E5.trans e6
        obtain ⟨pl6, fl6⟩ := at_ (eA.trans ((LamX.ExtN.of s1).trans E6))
        have sx6 := (noT_ext E6).trans noT_same
        refine ⟨_, rfl, _, rfl, _, rfl, _, rfl, jrn_ed2 pl6 fl6 e00 mr hz (badR_keep p1.1 sx6) fun d' H7 nd s7 ed => .inr ⟨d', y, tx, rfl, rfl, ed, shN _ (sx6.trans s7), fun l3 nl3 => ?_⟩⟩
        have s8 := s7.trans (same_new (o := .lst (rowT "edition" tx)) nl3)
        exact ⟨_, rfl, y, tx, rfl, shN _ (sx6.trans s8), by show 2 ≤ sizeLine; decide, fun l4 nl4 => ask_two nl4 (okd (by decide +kernel)) oktx ⟨_, rfl, iteFe rfl ⟨⟨_, rfl⟩, E6.trans (LamX.ExtN.of (same_new' s8 nl4)), Tabs.same t6 (same_new' s8 nl4)⟩⟩⟩
      · rintro sg' H' ⟨⟨v3, rfl⟩, e', t'⟩
        exact ⟨⟨_, rfl⟩, eA.trans ((LamX.ExtN.of s1).trans e'), t'⟩
    rintro _ HB ⟨_, eB, tB⟩
    exact kQ _ eB tB
end
end K26
namespace K26
open PySem PySem.Spec PyProof.Rows L2 Jg
local macro_rules | `(tactic| walk_at "rd1") => `(tactic| (first
  | refine ⟨_, rfl, ?_⟩
  | refine ⟨_, _, rfl, rfl, ?_⟩
  | refine ⟨_, _, rfl, ?_⟩
  | refine ⟨rfl, ?_⟩
  | (refine ⟨show (0 : Int) < _ by omega, ?_⟩)
  | (refine ⟨Or.inl ⟨by omega, by omega⟩, ?_⟩)
  | (refine ⟨Or.inr ⟨by omega, by omega⟩, ?_⟩)
  | (refine ⟨(⟨by decide, by decide, by decide⟩ : CPow _ _), ?_⟩)
  | refine Or.inl ⟨_, rfl, ?_⟩
  | refine Or.inr ⟨_, rfl, ?_⟩
  | fail "rd"))
local macro_rules | `(tactic| walk_at "rd") => `(tactic| repeat' walk_at "rd1")
open K26C (StA SameB spDr spCh use_choose Wd hid hid_in hid_get hid_same)
def NoPr (o : HO) : Prop := ∀ a b : Int, o ≠ .lst [.int a, .int b]
theorem plat_hide {PC C x p : Addr} {H : Hp} {es : List Ed} (h : PlAt PC C H x es) (st : StA H p) : PlAt PC C (hid [p] H) x es := by
  have m : ∀ {q : Addr} {o : HO}, H q = some o → NoPr o → hid [p] H q = some o := fun e n => hid_in e fun z => (st.no e n) (List.mem_singleton.mp z)
  obtain ⟨⟨dx, l, e1, e2⟩, eds, ok⟩ := h
  refine ⟨⟨dx, l, m e1 fun _ _ z => (nomatch z), m e2 frefs_no⟩, fun e he => ?_, ok⟩
  obtain ⟨t1, ⟨⟨dx2, d, v, s, c1, c2, c3, c4, r⟩, us⟩, ok2⟩ := eds e he
  exact ⟨m t1 fun _ _ z => (nomatch z), ⟨⟨dx2, d, v, s, m c1 fun _ _ z => (nomatch z), m c2 fun _ _ z => (nomatch z), m c3 K26C.strs_no, m c4 K26C.strs_no, r⟩, fun q hq => ⟨m (us q hq).tp fun _ _ z => (nomatch z), m (us q hq).ls K26C.strs_no, trivial, trivial⟩⟩, ok2⟩
theorem fa_hide {FC KC p : Addr} {H : Hp} {f d c : Addr} {ks : K26F.Ks} {cl : List Cl} (h : K26F.FltAt FC KC H f d c ks (cl.map fun q => V.ref q.t)) (st : StA H p) : K26F.FltAt FC KC (hid [p] H) f d c ks (cl.map fun q => V.ref q.t) := by
  have m : ∀ {q : Addr} {o : HO}, H q = some o → NoPr o → hid [p] H q = some o := fun e n => hid_in e fun z => (st.no e n) (List.mem_singleton.mp z)
  obtain ⟨⟨dx, ef⟩, ed, kd, ec⟩ := h
  have ed' := m ed fun _ _ z => (nomatch z)
  refine ⟨⟨dx, m ef fun _ _ z => (nomatch z)⟩, ed', ⟨.inl ed', fun e he => ?_⟩, m ec frefs_no⟩
  obtain ⟨⟨dx2, e2⟩, ok⟩ := kd.2 e he
  exact ⟨⟨dx2, m e2 fun _ _ z => (nomatch z)⟩, ok⟩
theorem alk_wk {ks : K26F.Ks} {kr : List KRow} (h : Alk ks kr) : K26F.WdKs ks ∧ K26F.Fed ks ∧ ks.map (·.1) = kr.map (·.z) := by
  obtain ⟨nd1, od1, nm1⟩ := kr_ord (i := kr.length) h.ok (by rw [List.take_length]; exact h.e)
  rw [List.take_length] at nm1
  refine ⟨fun e he => ?_, fun e he z ez => ?_, nm1⟩
  · have m : e.1 ∈ ks.map (·.1) := List.mem_map_of_mem he
    rw [nm1] at m
    obtain ⟨k', hk', q⟩ := List.mem_map.mp m
    rw [← q]; exact ⟨(h.ok.wd k' hk').ok.1, (h.ok.wd k' hk').ok.2⟩
  · obtain ⟨j, hj⟩ := List.getElem?_of_mem he
    exact (List.Sublist.map (fun e : Str × K26F.Kd × Addr => e.1) (List.take_sublist j ks)).subset (od1 j e z hj ez)
theorem sp_ok {kr : List KRow} {ms : List Int} {es : List Ed} (ok : KrOk kr) (mo : MsOk ms) (me : mos es = ms) (o : Option Str) : SpOk es (lateZ kr 5 o) := fun m hm => by
  rw [me] at hm
  have b := lateZ_b ok 5 o
  have m1 := mo.lo m hm
  have big : (10 : Int) ^ 32 + (1 + (5 : Nat) * (3 * 10 ^ 30)) < K26R.B := by decide +kernel
  have pos : -K26R.B < -1 := by decide +kernel
  unfold K26R.Bnd
  have p0 : (0 : Int) ≤ (5 : Nat) * (3 * 10 ^ 30) := by decide +kernel
  omega
theorem use_lplan {PC C lm lt : Addr} {ms : List Int} {qs : List Addr} {ds : List K26C.Td} {parts keys hands : List Str} {H : Hp} {Q : VK} {E : XK} (em : H lm = some (.lst (ms.map V.int))) (et : H lt = some (.lst (qs.map V.ref))) (mo : MsOk ms) (td : K26C.TdsAt parts keys hands H qs ds) (ww : K26C.Ww parts keys hands) (ql : qs.length = ms.length) (m1 : 1 ≤ ms.length) (m7 : ms.length ≤ 7)
    (k : ∀ (x : Addr) (es : List Ed) (H' : Hp), H x = none → Same H H' → PlAt PC C H' x es → mos es = ms → (∀ (i : Nat) (e : Ed), es[i]? = some e → ∃ d, ds[i]? = some d ∧ K26C.CtIs d e.c) → Q (.ref x) H') : spLPlan PC C [.ref lm, .ref lt] H Q E := by
  unfold spLPlan
  exact ⟨lm, lt, ms, qs, ds, parts, keys, hands, rfl, em, et, mo, td, ww, ql, m1, m7, k⟩
theorem use_lfl {FC KC lk lc : Addr} {kr : List KRow} {cl : List Cl} {parts : List Str} {H : Hp} {Q : VK} {E : XK} (ek : H lk = some (.lst (kr.map fun k => V.ref k.t))) (ka : ∀ k ∈ kr, KrAt H k) (ko : KrOk kr) (k4 : kr.length ≤ 4)
    (ec : H lc = some (.lst (cl.map fun q => V.ref q.t))) (ca : ∀ q ∈ cl, ClAt H q) (co : ClOk parts (kr.map (·.z)) cl) (c5 : cl.length ≤ 5) (pw : ∀ z ∈ parts, K26C.Wd z)
    (k : ∀ (f d c : Addr) (ks : K26F.Ks) (cl' : List Cl) (H' : Hp), H c = none → Same H H' → K26F.FltAt FC KC H' f d c ks (cl'.map fun q => V.ref q.t) → (∀ q ∈ cl', ClAt H' q) → Alk ks kr → cl'.map Cl.w = cl.map Cl.w → Q (.ref f) H') : spLFleet FC KC [.ref lk, .ref lc] H Q E := by
  unfold spLFleet
  exact ⟨lk, lc, kr, cl, parts, rfl, ek, ka, ko, k4, ec, ca, co, c5, pw, fun f d c ks cl' H' nf nd nc s fa cA ke ce => k f d c ks cl' H' nc s fa cA ⟨ke, ko⟩ ce⟩
/-- what a run has made -/
structure Fct (kr : List KRow) (cd : List Cl) (ms : List Int) (qs : List Addr) (ds : List K26C.Td) (ks : K26F.Ks) (cl : List Cl) (es : List Ed) (parts keys hands : List Str) : Prop where
  al : Alk ks kr
  k1 : 1 ≤ kr.length
  k4 : kr.length ≤ 4
  mo : MsOk ms
  m1 : 1 ≤ ms.length
  m7 : ms.length ≤ 7
  ww : K26C.Ww parts keys hands
  ql : qs.length = ms.length
  me : mos es = ms
  ci : ∀ (i : Nat) (e : Ed), es[i]? = some e → ∃ d, ds[i]? = some d ∧ K26C.CtIs d e.c
  co : ClOk parts (kr.map (·.z)) cd
  we : cl.map Cl.w = cd.map Cl.w
  c4 : cd.length ≤ 4
theorem Fct.cn {kr : List KRow} {cd : List Cl} {ms : List Int} {qs : List Addr} {ds : List K26C.Td} {ks : K26F.Ks} {cl : List Cl} {es : List Ed} {parts keys hands : List Str} (F : Fct kr cd ms qs ds ks cl es parts keys hands) : cl.length ≤ 4 := by
  have := congrArg List.length F.we
  rw [List.length_map, List.length_map] at this
  rw [this]; exact F.c4
theorem Fct.cw {kr : List KRow} {cd : List Cl} {ms : List Int} {qs : List Addr} {ds : List K26C.Td} {ks : K26F.Ks} {cl : List Cl} {es : List Ed} {parts keys hands : List Str} (F : Fct kr cd ms qs ds ks cl es parts keys hands) {q : Cl} (hq : q ∈ cl) : ∃ x ∈ cd, Cl.w x = Cl.w q := by
  have m : Cl.w q ∈ cd.map Cl.w := F.we ▸ List.mem_map_of_mem hq
  obtain ⟨x, hx, ex⟩ := List.mem_map.mp m
  exact ⟨x, hx, ex⟩
theorem Fct.cz {kr : List KRow} {cd : List Cl} {ms : List Int} {qs : List Addr} {ds : List K26C.Td} {ks : K26F.Ks} {cl : List Cl} {es : List Ed} {parts keys hands : List Str} (F : Fct kr cd ms qs ds ks cl es parts keys hands) : ∀ q ∈ cl, q.z ∈ parts := fun q hq => by
  obtain ⟨x, hx, ex⟩ := F.cw hq
  have : x.z = q.z := congrArg (·.1) ex
  rw [← this]; exact F.co.z x hx
theorem fst_of {kr : List KRow} {cd : List Cl} {ms : List Int} {qs : List Addr} {ds : List K26C.Td} {ks : K26F.Ks} {cl : List Cl} {es : List Ed} {parts keys hands : List Str} {B : Hp} (F : Fct kr cd ms qs ds ks cl es parts keys hands) (td : K26C.TdsAt parts keys hands B qs ds) : ∃ e0, es[0]? = some e0 ∧ e0.c.us.map (·.z) = srtW parts ∧ missR cl (e0.c.us.map (·.z)) = none := by
  have le : es.length = ms.length := by rw [← F.me]; unfold mos; rw [List.length_map]
  have m1 := F.m1
  obtain ⟨e0, h0⟩ : ∃ e0, es[0]? = some e0 := ⟨_, List.getElem?_eq_getElem (by omega)⟩
  obtain ⟨q0, hq⟩ : ∃ q0, qs[0]? = some q0 := ⟨_, List.getElem?_eq_getElem (by rw [F.ql]; omega)⟩
  obtain ⟨d1, hd, cis⟩ := F.ci 0 e0 h0
  obtain ⟨d2, hd2, _, tg⟩ := td.at_ hq
  rw [hd] at hd2
  cases hd2
  have ez : e0.c.us.map (·.z) = srtW parts := by rw [cis.zs, tg.zs]
  exact ⟨e0, h0, ez, missR_no fun q hq => by rw [ez]; exact srtW_mem.mpr (F.cz q hq)⟩
theorem plat_noT {PC C x : Addr} {H : Hp} {es : List Ed} (h : PlAt PC C H x es) : PlAt PC C (noT H) x es := by
  obtain ⟨⟨dx, l, e1, e2⟩, eds, ok⟩ := h
  refine ⟨⟨dx, l, noT_at e1 fun _ z => (nomatch z), noT_at e2 fun _ z => (nomatch z)⟩, fun e he => ?_, ok⟩
  obtain ⟨t1, ⟨⟨dx2, d, v, s, c1, c2, c3, c4, r⟩, us⟩, ok2⟩ := eds e he
  exact ⟨noT_at t1 fun _ z => (nomatch z), ⟨⟨dx2, d, v, s, noT_at c1 fun _ z => (nomatch z), noT_at c2 fun _ z => (nomatch z), noT_at c3 fun _ z => (nomatch z), noT_at c4 fun _ z => (nomatch z), r⟩, fun q hq => ⟨noT_at (us q hq).tp fun _ z => (nomatch z), noT_at (us q hq).ls fun _ z => (nomatch z), trivial, trivial⟩⟩, ok2⟩
theorem fa_noT {FC KC : Addr} {H : Hp} {f d c : Addr} {ks : K26F.Ks} {cs : List V} (h : K26F.FltAt FC KC H f d c ks cs) : K26F.FltAt FC KC (noT H) f d c ks cs := by
  obtain ⟨⟨dx, ef⟩, ed, kd, ec⟩ := h
  have ed' := noT_at ed fun _ z => (nomatch z)
  refine ⟨⟨dx, noT_at ef fun _ z => (nomatch z)⟩, ed', ⟨.inl ed', fun e he => ?_⟩, noT_at ec fun _ z => (nomatch z)⟩
  obtain ⟨⟨dx2, e2⟩, ok⟩ := kd.2 e he
  exact ⟨⟨dx2, noT_at e2 fun _ z => (nomatch z)⟩, ok⟩
theorem plays_two {kr : List KRow} {ms : List Int} {i j : Nat} {L1 L2 : List MW} (h1 : ∀ (k : Nat) (q : MW), L1[k]? = some q → Fits kr ms ([] ++ (L1.take k).map (toP kr i)) q i) (h2 : ∀ (k : Nat) (q : MW), L2[k]? = some q → Fits kr ms (L1.map (toP kr i) ++ (L2.take k).map (toP kr j)) q j) : Plays kr ms (L1 ++ L2) (L1.map (toP kr i) ++ L2.map (toP kr j)) := by
  refine ⟨by rw [List.length_append, List.length_append, List.length_map, List.length_map], fun k q hq => ?_⟩
  by_cases c : k < L1.length
  · rw [List.getElem?_append_left c] at hq
    refine ⟨i, ?_, ?_⟩
    · rw [List.take_append_of_le_length (by rw [List.length_map]; omega), ← List.map_take]
      exact h1 k q hq
    · rw [List.getElem?_append_left (by rw [List.length_map]; exact c), List.getElem?_map, hq]; rfl
  · rw [List.getElem?_append_right (by omega)] at hq
    obtain ⟨t, rfl⟩ : ∃ t, k = L1.length + t := ⟨k - L1.length, by omega⟩
    rw [show L1.length + t - L1.length = t by omega] at hq
    refine ⟨j, ?_, ?_⟩
    · rw [List.take_append, List.length_map, show L1.length + t - L1.length = t by omega, List.take_of_length_le (by rw [List.length_map]; omega), ← List.map_take]
      exact h2 t q hq
    · rw [List.getElem?_append_right (by rw [List.length_map]; omega), List.length_map, show L1.length + t - L1.length = t by omega, List.getElem?_map, hq]; rfl
theorem last_at {α : Type} {xs : List α} {y : α} (h : xs.getLast? = some y) : 1 ≤ xs.length ∧ xs[xs.length - 1]? = some y := by
  have ne : xs ≠ [] := fun z => by rw [z] at h; cases h
  rw [List.getLast?_eq_getElem?] at h
  exact ⟨List.length_pos_iff.mpr ne, h⟩
open K26C (Td TdAt TdsAt TdG Ww vouB sgT)
theorem sgT_wd {d : Td} (ok : K26C.TdR d) : K26C.WdL (sgT d) 4 := by
  unfold sgT
  cases c : d.sg with
  | none => exact ok.vo
  | some ks => exact ok.sg ks c
/-- what is shown of a run that jumps, put together -/
theorem use_jrun {K : PySem.W.Frag} {PC C FC KC CU CE p f lk lm lt : Addr} {es : List Ed} {ks : K26F.Ks} {cl : List Cl} {e0 : Ed} {kr : List KRow} {ms : List Int} {qs : List Addr} {ds : List Td} {parts keys hands : List Str} {ia i j : Nat} {k0 : KRow} {H : Hp} {Q : VK} {E : XK} (F : RtF es ks cl e0 kr ms) (pl : PlAt PC C H p es) (fl : FlAt FC KC H f ks cl) (hk : kr[ia]? = some k0) (hi : i < ms.length) (hj : j < ms.length)
    (ek : H lk = some (.lst (kr.map fun k => V.ref k.t))) (ka : ∀ k ∈ kr, KrAt H k) (em : H lm = some (.lst (ms.map V.int))) (et : H lt = some (.lst (qs.map V.ref))) (td : TdsAt parts keys hands H qs ds) (ww : Ww parts keys hands) (ql : qs.length = ms.length)
    (kn : ((i : Int), (j : Int)) ∉ jmps ms (lateZ kr 5 (some k0.z)) → ∀ H', Same H H' → Q .non H')
    (ky : ((i : Int), (j : Int)) ∈ jmps ms (lateZ kr 5 (some k0.z)) → ∀ (T tm te : Addr) (mcs : List Mac) (mc : Mac) (ps : List PW) (pm : Int) (pw : Option Int) (a1 a2 : Addr) (d1 d2 : Td) (H' : Hp), H T = none → Same H H' → H' T = some (.tup [.ref tm, .ref te]) → H' te = some (.tup []) → mc.z = k0.z → PlF lk lm tm lt kr ms mcs mc ps pm pw i j a1 a2 qs d1 d2 H' → Q (.ref T) H') : spJRun K PC C FC KC CU CE [.ref p, .ref f, .str k0.z, .int (i : Nat), .int (j : Nat)] H Q E := by
  have le := F.le
  have ok := F.al.ok
  have mk := List.mem_of_getElem? hk
  have k4 := F.k4
  have ia4 : ia < 4 := by have := (List.getElem?_eq_some_iff.mp hk).1; omega
  obtain ⟨ei, hei⟩ : ∃ ei, es[i]? = some ei := ⟨_, List.getElem?_eq_getElem (by omega)⟩
  obtain ⟨ej, hej⟩ : ∃ ej, es[j]? = some ej := ⟨_, List.getElem?_eq_getElem (by omega)⟩
  obtain ⟨mz, lz⟩ : k0.z ∈ ks.map (·.1) ∧ lateK ks k0.z = lateZ kr 5 (some k0.z) := ⟨by rw [(alk_wk F.al).2.2]; exact List.mem_map_of_mem mk, late_eq F.al hk⟩
  have so := fun o => sp_ok F.al.ok F.mo F.me (es := es) o
  unfold spJRun
  refine ⟨p, f, es, ks, cl, _, _, _, e0, rfl, pl, fl, F.e00, .inr ⟨F.mr, .inr ⟨k0.z, rfl, mz, .inr ⟨i, ei, rfl, hei, .inr ⟨j, ej, rfl, hej, ?_⟩⟩⟩⟩⟩
  rw [F.me, lz]
  by_cases c : ((i : Int), (j : Int)) ∈ jmps ms (lateZ kr 5 (some k0.z))
  · refine .inr ⟨c, kr, ia, k0, ⟨pl, fl, F.al, k4, by omega, by rw [F.me]; exact F.mo, so⟩, ⟨pl, fl, F.al, k4, by omega, by rw [F.me]; exact F.mo, so⟩, hk, rfl, ?_⟩
    intro T tm te m1 m2 mc H' nT sF eT ee et' at9 mu w1 w2
    obtain ⟨i', j', ij, jl, jm, eij⟩ := jmps_mem.mp c
    obtain ⟨rfl, rfl⟩ : i = i' ∧ j = j' := by
      have a1 : (i : Int) = (i' : Int) := congrArg (·.1) eij
      have a2 : (j : Int) = (j' : Int) := congrArg (·.2) eij
      exact ⟨by omega, by omega⟩
    unfold lastJ at jm
    have mnj := ms_at hj
    have lij : ms.getD i 0 < ms.getD j 0 := mo_lt F.mo (j - i - 1) i _ _ (ms_at hi) (by rw [show i + (j - i - 1) + 1 = j by omega]; exact mnj)
    have ihj : InHd ms j (lateZ kr 5 k0.r.s) (ms.getD j 0) := ⟨Int.le_refl _, fun e he => end_ge F.mo (lateZ_b ok 5 _).1 hj he⟩
    have ihi : InHd ms i (lateZ kr 5 (some k0.z)) (ms.getD j 0 - 1) := ⟨by omega, fun e he => by
      unfold endO at he
      rw [if_neg (by omega)] at he
      have := Option.some.inj he
      omega⟩
    have cur : (j : Int) = curI ms (ms.getD j 0) := (cur_at F.mo hj (Int.le_refl _) fun n1 => by have := F.mo.inc j _ _ mnj (ms_at (ms := ms) (n := j + 1) n1); exact this).symm
    have fst := first_le F.mo hj
    generalize ms.getD j 0 = pm at *
    have p1 := play (kr := kr) (ms := ms) (n := j) ok F.mo hj 3 k0.r.s pm [] (by decide) ihj (fun y ey => by
      obtain ⟨q, k', lt, h', q'⟩ := take_at (g := KRow.z) (ok.s ia k0 y hk ey)
      exact ⟨q, k', h', q', by omega⟩)
    have len1 : ((m1.map Mac.w).map (toP kr j)).length = m1.length := by rw [List.length_map, List.length_map]
    have p2 := play (kr := kr) (ms := ms) (n := i) ok F.mo hi 4 (some k0.z) (pm - 1) ((m1.map Mac.w).map (toP kr j)) (by decide) ihi (fun z ez => ⟨ia, k0, hk, Option.some.inj ez, ia4⟩)
    rw [len1, ← w2] at p2
    rw [List.length_nil, ← w1] at p1
    obtain ⟨f1, g1⟩ := p1
    obtain ⟨f2, g2⟩ := p2
    have b1 := hmL_len (kr := kr) (ms := ms) (n := j) 3 k0.r.s pm 0
    have b2 := hmL_len (kr := kr) (ms := ms) (n := i) 4 (some k0.z) (pm - 1) m1.length
    rw [← w1, List.length_map] at b1
    rw [← w2, List.length_append, List.length_map] at b2
    have b2 : m2.length + 1 ≤ 8 := b2
    obtain ⟨q2, l2, z2, lo2, hi2⟩ := g2 _ rfl
    have eq2 : mc.w = q2 := by
      rw [List.getLast?_append] at l2
      exact Option.some.inj l2
    subst eq2
    have z2 : mc.z = k0.z := z2
    have f2' : ∀ (t : Nat) (q : MW), (m2.map Mac.w)[t]? = some q → Fits kr ms ((m1.map Mac.w).map (toP kr j) ++ ((m2.map Mac.w).take t).map (toP kr i)) q i := fun t q hq => by
      have tl := (List.getElem?_eq_some_iff.mp hq).1
      have := f2 t q (by rw [List.getElem?_append_left tl]; exact hq)
      rw [List.take_append_of_le_length (by omega)] at this
      exact this
    have fl' := f2 m2.length mc.w (by rw [List.getElem?_append_right (by rw [List.length_map]; exact Nat.le_refl _), List.length_map, Nat.sub_self]; rfl)
    rw [List.take_append_of_le_length (by rw [List.length_map]; exact Nat.le_refl _), List.take_of_length_le (by rw [List.length_map]; exact Nat.le_refl _)] at fl'
    have pr : Fits kr ms ((m1.map Mac.w).map (toP kr j) ++ (m2.map Mac.w).map (toP kr i)) (mc.z, pm, orgO (srcO k0.r.s m1.length)) (j : Int) := by
      refine ⟨ia, k0, hk, z2.symm, ?_⟩
      cases cs : k0.r.s with
      | none => exact ⟨rfl, fst, cur⟩
      | some y =>
        rw [cs] at g1
        obtain ⟨q1, l1, z1, lo1, hi1⟩ := g1 _ rfl
        obtain ⟨n1, a1⟩ := last_at l1
        rw [List.length_map] at n1 a1
        refine ⟨y, m1.length - 1, toP kr j q1, rfl, by show (m1.length : Int) - 1 = _; omega, ?_, z1, lo1, ?_, rfl⟩
        · rw [List.getElem?_append_left (by rw [len1]; omega), List.getElem?_map, a1]; rfl
        · show pm ≤ q1.2.1 + gZ kr q1.1 - 1
          rw [z1]; exact hi1
    have td' := td.same sF
    obtain ⟨a1, ha1⟩ : ∃ a1, qs[i]? = some a1 := ⟨_, List.getElem?_eq_getElem (by omega)⟩
    obtain ⟨a2, ha2⟩ : ∃ a2, qs[j]? = some a2 := ⟨_, List.getElem?_eq_getElem (by omega)⟩
    obtain ⟨d1, _, t1, g1'⟩ := td'.at_ ha1
    obtain ⟨d2, _, t2, g2'⟩ := td'.at_ ha2
    have sgl : (sgT d2).length ≤ 500 := by have := (sgT_wd (g2'.r ww)).le; omega
    have hi2 : pm - 1 ≤ mc.b + gZ kr mc.z - 1 := by rw [z2]; exact hi2
    have lo2 : mc.b ≤ pm - 1 := lo2
    refine ky c T tm te (m1 ++ m2) mc ((m1.map Mac.w).map (toP kr j) ++ (m2.map Mac.w).map (toP kr i)) pm (srcO k0.r.s m1.length) a1 a2 d1 d2 H' nT sF eT ee z2 ⟨sF _ _ ek, fun k hk => sF _ _ (ka k hk), ok, by omega, sF _ _ em, F.m1, by have := F.m7; omega, et', at9, mu, by rw [List.length_append]; omega, ?_, fl', pr, by omega, by omega, ij, sF _ _ et, ha1, ha2, t1, t2, sgl⟩
    rw [List.map_append]
    exact plays_two f1 f2'
  · exact .inl ⟨c, kn c⟩
end K26
namespace K26
open PySem PySem.Spec PyProof.Rows L2 Jg
local macro_rules | `(tactic| walk_at "rd1") => `(tactic| (first
  | refine ⟨_, rfl, ?_⟩
  | refine ⟨_, _, rfl, rfl, ?_⟩
  | refine ⟨_, _, rfl, ?_⟩
  | refine ⟨rfl, ?_⟩
  | (refine ⟨show (0 : Int) < _ by omega, ?_⟩)
  | (refine ⟨Or.inl ⟨by omega, by omega⟩, ?_⟩)
  | (refine ⟨Or.inr ⟨by omega, by omega⟩, ?_⟩)
  | (refine ⟨(⟨by decide, by decide, by decide⟩ : CPow _ _), ?_⟩)
  | refine Or.inl ⟨_, rfl, ?_⟩
  | refine Or.inr ⟨_, rfl, ?_⟩
  | fail "rd"))
local macro_rules | `(tactic| walk_at "rd") => `(tactic| repeat' walk_at "rd1")
open K26C (use_choose StA SameB Wd hid hid_in hid_get hid_same hid_mut)
theorem use_late {lk : Addr} {kr : List KRow} {o : Option Str} {H : Hp} {Q : VK} {E : XK} (ek : H lk = some (.lst (kr.map fun k => V.ref k.t))) (ka : ∀ k ∈ kr, KrAt H k) (ok : KrOk kr) (l : kr.length ≤ 4) (m : ∀ z, o = some z → z ∈ kr.map (·.z)) (k : ∀ H', Same H H' → Q (.int (lateZ kr 5 o)) H') : spLLate 5 [.ref lk, K26F.sV o] H Q E := by
  unfold spLLate
  refine ⟨lk, kr, o, rfl, ek, ka, ok, by omega, by decide, fun z ez => ?_, k⟩
  obtain ⟨k0, hk, q⟩ := List.mem_map.mp (m z ez)
  obtain ⟨i, hi⟩ := List.getElem?_of_mem hk
  exact ⟨i, k0, hi, q, by have := (List.getElem?_eq_some_iff.mp hi).1; omega⟩
theorem cut_take {xs : List V} (n : Nat) : cutV xs none (some (n : Int)) = xs.take n := by
  unfold cutV
  rw [HT.sIx_none, HT.sIx_nat, List.drop_zero, Nat.sub_zero]
  by_cases c : n ≤ xs.length
  · rw [Nat.min_eq_left c]
  · rw [Nat.min_eq_right (by omega), List.take_length, List.take_of_length_le (by omega)]
section
variable {PC C FC KC p lk lm lt pl f d c : Addr} {TL : List (Addr × Str)} {kr : List KRow} {ms : List Int} {qs : List Addr} {ds : List K26C.Td} {parts keys hands : List Str} {ks : K26F.Ks} {cl : List Cl} {es : List Ed} {H1 H H' : Hp}
theorem Lw.plA (h : Lw PC C FC KC p lk lm lt pl f d c TL kr ms qs ds parts keys hands ks cl es H1 H) : PlAt PC C H pl es := h.pc.same hid_same
theorem Lw.flA (h : Lw PC C FC KC p lk lm lt pl f d c TL kr ms qs ds parts keys hands ks cl es H1 H) (al : Alk ks kr) : FlAt FC KC H f ks cl := ⟨⟨d, c, h.fc.keep hid_same⟩, fun q hq => hid_same _ _ (h.cc q hq), (alk_wk al).1, (alk_wk al).2.1⟩
end
theorem sc_law : FnScope ["script", "k", "stream", "kinds", "calls", "moments", "tolds", "plan", "fleet", "name", "span_v", "aged", "feeder", "known", "pair", "told"] ["script"] (defScope s_law) := ⟨rfl, rfl, rfl, by decide +kernel, rfl, by decide +kernel, by decide +kernel⟩
def qlaw : Str := (envOfC "law" (defScope s_law) 0 0 .none).qual ++ "<lambda>"
def spLaw (K : PySem.W.Frag) (TL : List (Addr × Str)) : Sp := fun vs H Q _ => ∃ (a : Addr) (ns : List Int), vs = [.ref a] ∧ SqL K H a (ns.map V.int) ∧ ns.length ≤ 63 ∧ LamX.Tabs TL H ∧ ∀ H', Q (.bl true) H'
section
variable {P : Program} {w : World} {K : PySem.W.Frag} {mg : Str → Option Value} {base : Heap} {C PC FC KC RC CA CO CU CE CM c1 P1 : Addr} {TL : List (Addr × Str)} {st1 st2 st3 : Stmt}
theorem body_law (DF : DefK K mg "_law_failed" s_law_failed) (T : TxP K mg) (TF : K26F.FTx K mg FC) (U : K26F.ExnQ K mg "UnknownName" CU "UnknownName.__init__" st1 "name") (I : K26F.ExnQ K mg "UnknownEdition" CE "UnknownEdition.__init__" st2 "number") (W9 : TstF K CU CE) (TB : LamX.TabB base mg c1 P1) (hmT : (P1, qlaw) ∈ TL) (huT : ∀ p ∈ TL, p.1 = P1 → p.2 = qlaw)
    (G_law_stream : Cal P w K mg base CX0 1 "_law_stream" (K26C.spStream K)) (G_law_large : Cal P w K mg base CX0 5 "_law_large" spLarge) (G_law_plan : Cal P w K mg base CX0 10 "_law_plan" (spLPlan PC C)) (G_law_fleet : Cal P w K mg base CX0 9 "_law_fleet" (spLFleet FC KC)) (G_law_late : Cal P w K mg base CX0 6 "_law_late" (spLLate 5)) (G_law_pairs : Cal P w K mg base CX0 1 "_law_pairs" spPairs) (G_law_jumps : Cal P w K mg base CX0 2 "_law_jumps" spLJ) (G_law_is_shown : Cal P w K mg base CX0 5 "_law_is_shown" spShJ) (G_jump_run : Cal P w K mg base (L2.CX P w) 21 "jump_run" (spJRun K PC C FC KC CU CE)) (G_law_refused_right : CalG P w K mg base CX0 24 "_law_refused_right" (spRfr PC C FC KC TL))
    (M_add0 : MetW P w K mg base (L2.CX P w) 5 FC "add_call" 4 [] (fun vs zs => vs ++ [.int 0] ++ zs) (K26F.spAdd K FC KC CA CU CM CO))
    (ff : Addr) (A : Around) (outer : List Env) (s : Shared) (H : Hp) (vs : List V) (Q : VK) (E : XK) (g : (A.deeper (envOfC "law" (defScope s_law) s.heap.objs.size ff (.ref c1))).guards = some []) (hr : Room 25 (A.deeper (envOfC "law" (defScope s_law) s.heap.objs.size ff (.ref c1)))) (h : spLaw K TL vs H Q E) :
    ∃ t, PSs (cxOf CX0 P w K mg base ["script", "k", "stream", "kinds", "calls", "moments", "tolds", "plan", "fleet", "name", "span_v", "aged", "feeder", "known", "pair", "told"] "law" (defScope s_law) ff (.ref c1) A outer s H E).nox (defBody s_law) t ∧ t { nx := fun _ H' => Q .non H', rt := Q } (start ["script", "k", "stream", "kinds", "calls", "moments", "tolds", "plan", "fleet", "name", "span_v", "aged", "feeder", "known", "pair", "told"] vs) H := by
  obtain ⟨a, ns, rfl, hS, hl, t0, k⟩ := h
  have hu1 : (A.deeper (envOfC "law" (defScope s_law) s.heap.objs.size ff (.ref c1))).units + 65 < cLine := by have := hr.un; omega
  have hu : (A.deeper (envOfC "law" (defScope s_law) s.heap.objs.size ff (.ref c1))).units + 64 < cLine := hr.units
  refine ⟨_, (pss_cons (ps_for PassesOwn.never rfl (pi_range1 (by rfl) T.b_range (pa_cons (pe_callB (call_max2 rfl) (by rfl) T.b_max (by decide +kernel) (pa_cons pe_int (pa_cons (pe_callB (call_min2 rfl) (by rfl) T.b_min (by decide +kernel) (pa_cons pe_int (pa_cons (pe_callB call_len_seq (by rfl) T.b_len (by decide +kernel) (pa_cons (pv 0) pa_nil)) pa_nil))) pa_nil))) pa_nil)) (pg_name (i := 1) sc_law.nd rfl (Or.inl rfl)) (pss_cons (ps_set (i := 2) sc_law.nd rfl (Or.inl rfl) (pe_c G_law_stream hr (by decide) rfl (pa_cons (pv 0) (pa_cons (pv 1) pa_nil))))
      (C8.pss_cut (ps_asg (pe_c G_law_large hr (by decide) rfl (pa_cons (pv 2) (pa_cons pe_int pa_nil))) (pg_lst rfl (pgs_cons (pg_name (i := 3) sc_law.nd rfl (Or.inl rfl)) (pgs_cons (pg_name (i := 4) sc_law.nd rfl (Or.inl rfl)) (pgs_cons (pg_name (i := 5) sc_law.nd rfl (Or.inl rfl)) (pgs_cons (pg_name (i := 6) sc_law.nd rfl (Or.inl rfl)) pgs_nil))))))
      (C8.pss_cut (ps_asg (pe_tup (pa_cons (pe_c G_law_plan hr (by decide) rfl (pa_cons (pv 5) (pa_cons (pv 6) pa_nil))) (pa_cons (pe_c G_law_fleet hr (by decide) rfl (pa_cons (pv 3) (pa_cons (pv 4) pa_nil))) pa_nil))) (pg_tup rfl (pgs_cons (pg_name (i := 7) sc_law.nd rfl (Or.inr rfl)) (pgs_cons (pg_name (i := 8) sc_law.nd rfl (Or.inr rfl)) pgs_nil))))
      (C8.pss_cut (ps_for PassesOwn.never rfl (pi_list (pe_slice sl_list (pe_revL (pv 3)) po_none (po_some pe_int))) (pg_tup rfl (pgs_cons (pg_name (i := 9) sc_law.nd rfl (Or.inl rfl)) (pgs_cons (pg_name (i := 10) sc_law.nd rfl (Or.inl rfl)) (pgs_cons (pg_name (i := 11) sc_law.nd rfl (Or.inl rfl)) (pgs_cons (pg_name (i := 12) sc_law.nd rfl (Or.inl rfl)) pgs_nil))))) (pss_cons (ps_set (i := 13) sc_law.nd rfl (Or.inl rfl) (pe_c G_law_jumps hr (by decide) rfl (pa_cons (pv 5) (pa_cons (pe_c G_law_late hr (by decide) rfl (pa_cons (pv 3) (pa_cons (pv 9) pa_nil))) pa_nil))))
      (pss_one (ps_for PassesOwn.never rfl (pi_list (pe_c G_law_pairs hr (by decide) rfl (pa_cons (pe_callB call_len_seq (by rfl) T.b_len (by decide +kernel) (pa_cons (pv 5) pa_nil)) pa_nil))) (pg_name (i := 14) sc_law.nd rfl (Or.inl rfl)) (pss_cons (ps_set (i := 15) sc_law.nd rfl (Or.inl rfl) (pe_cS G_jump_run takes0 hr (by decide) rfl (pa_cons (pv 7) (pa_cons (pv 8) (pa_cons (pv 9) (pa_cons (pe_ix (r := rIxT K) ix_tup (pv 14) pe_int (fun _ _ => rfl)) (pa_cons (pe_ix (r := rIxT K) ix_tup (pv 14) pe_int (fun _ _ => rfl)) pa_nil)))))))
      (pss_cons (ps_if (pt_cmpR op_ne (pe_cmpR op_isN (pv 15) pe_non (nomark _)) (pe_cmpR (r := rNotInD K) (op_notInD hu1) (pv 14) (pv 13) rfl) (nomark _)) (pss_one (ps_ret pe_bl)) pss_nil)
      (pss_one (ps_if (pt_cmpR op_notN (pv 15) pe_non (nomark _)) (pss_one (ps_if (pt_not (pt_val (pe_c G_law_is_shown hr (by decide) rfl (pa_cons (pv 3) (pa_cons (pv 5) (pa_cons (pv 6) (pa_cons (pv 9) (pa_cons (pv 14) (pa_cons (pv 15) pa_nil))))))))) (pss_one (ps_ret pe_bl)) pss_nil)) pss_nil))))))))
      (C8.pss_cut (ps_if (pt_not (pt_val (pe_cG G_law_refused_right g hr (by decide) rfl (pa_cons (pv 7) (pa_cons (pv 8) (pa_cons (pe_ix (r := rIxT K) ix_tup (pe_ix (r := rIxL K) ix_list (pv 3) pe_int (fun _ _ => rfl)) pe_int (fun _ _ => rfl)) pa_nil)))))) (pss_one (ps_ret pe_bl)) pss_nil)
      (C8.pss_cut (ps_expr (pe_mKS M_add0 TF.cl takes0 hr (by decide) (pv 8) (pa_cons pe_str (pa_cons (pe_ix (r := rIxT K) ix_tup (pe_ix (r := rIxL K) ix_list (pv 3) pe_int (fun _ _ => rfl)) pe_int (fun _ _ => rfl)) (pa_cons (pe_ix (r := rIxT K) ix_tup (pe_ix (r := rIxL K) ix_list (pv 3) pe_int (fun _ _ => rfl)) pe_int (fun _ _ => rfl)) pa_nil))) pk_nil))
      (pss_one (ps_if (pt_cmpR (op_neD hu) (pe_lamT DF sc_law_failed bd_failed (gives_failed T U I W9 (hr.mono (by decide)) g _) TB rfl hmT huT hr (fun _ _ _ _ _ _ _ hr => pe_cS G_jump_run (takes_of rfl rfl rfl rfl) hr (by decide) rfl (pa_cons (pv 7) (pa_cons (pv 8) (pa_cons pe_int (pa_cons (pe_un un_neg pe_int) (pa_cons (pe_un un_neg pe_int) pa_nil)))))) rfl rfl (.inl rfl) (show LamX.LamS (defScope s_law) _ from LamX.lamS_by (by decide +kernel)) rfl (fun _ _ _ _ _ => rfl)) (pe_lst (pa_cons pe_str (pa_cons pe_str pa_nil))) (nomark _)) (pss_one (ps_ret pe_bl)) pss_nil)))))))))
      (pss_one (ps_ret pe_bl))), ?_⟩
  refine ⟨_, rfl, a, _, rfl, .inl hS, _, _, rfl, _, _, rfl, _, rfl, by split <;> split <;> omega, by rw [List.length_map]; split <;> split <;> omega, ?_⟩
  have tn : ∀ i : Nat, i < (if (if ((ns.map V.int).length : Int) < 8 then ((ns.map V.int).length : Int) else 8) > 1 then (if ((ns.map V.int).length : Int) < 8 then ((ns.map V.int).length : Int) else 8) else 1).toNat → i ≤ 1000 := by
    intro i hi
    rw [List.length_map] at hi
    split at hi <;> split at hi <;> omega
  have hSn : SqL K (noT H) a (ns.map V.int) := by
    rcases hS with h | h
    · left
      rcases h with h | ⟨o, h⟩
      · exact .inl (noT_at h fun _ z => nomatch z)
      · exact .inr ⟨o, noT_at h fun _ z => nomatch z⟩
    · exact .inr h
  show Exists _
  refine for_range (lo := 0) (fun i sg H' => ∃ v1 v2 v3 v4 v5 v6 v7 v8 v9 v10 v11 v12 v13 v14 v15 : Option V, sg = [some (.ref a), v1, v2, v3, v4, v5, v6, v7, v8, v9, v10, v11, v12, v13, v14, v15] ∧ LamX.ExtN H H' ∧ LamX.Tabs TL H') ⟨_, _, _, _, _, _, _, _, _, _, _, _, _, _, _, rfl, .refl H, t0⟩ ?_ ?_
  · rintro i sg H1 hi ⟨v1, v2, v3, v4, v5, v6, v7, v8, v9, v10, v11, v12, v13, v14, v15, rfl, s1, t1⟩
    have hk := tn i hi
    clear tn hi
    have ei : (0 : Int) + (i : Nat) = ((i : Nat) : Int) := by omega
    rw [ei]
    have hS1 : SqL K H1 a (ns.map V.int) := ((noT_ext s1).trans noT_same).seq hSn
    refine ⟨_, rfl, _, rfl, a, ns, i, rfl, hS1, hk, fun p x y np hx => ?_⟩
    have sA : Same H1 (upd H1 p (.lst [.int x, .int y])) := same_new np
    have stA : StA (upd H1 p (.lst [.int x, .int y])) p := ⟨x, y, upd_same, hx⟩
    have tA := Tabs.same t1 sA
    generalize upd H1 p (.lst [.int x, .int y]) = HA at *
    refine ⟨fun σ' H' => ∃ L lk lc lm lt kr cl ms qs ds parts keys hands, σ' = [some (.ref a), some (.int i), some (.ref p), some (.ref lk), some (.ref lc), some (.ref lm), some (.ref lt), v7, v8, v9, v10, v11, v12, v13, v14, v15] ∧ Lrg p L H' lk lc lm lt kr cl ms qs ds parts keys hands ∧ Same H1 H' ∧ LamX.Tabs TL H', ?_, ?_⟩
    · have ul : ∀ (Q2 : VK), (∀ (L lk lc lm lt : Addr) (kr : List KRow) (cl : List Cl) (ms : List Int) (qs : List Addr) (ds : List K26C.Td) (parts keys hands : List Str) (H' : Hp), Lrg p L H' lk lc lm lt kr cl ms qs ds parts keys hands → SameB p HA H' → Q2 (.ref L) H') → spLarge [.ref p, .int 7] HA Q2 E0 := fun Q2 q => by
        unfold spLarge
        exact ⟨p, 7, rfl, stA, by decide, by decide, q⟩
      refine ⟨_, rfl, ul _ fun L lk lc lm lt kr cl ms qs ds parts keys hands HB lg sB => ?_⟩
      exact ⟨L, _, rfl, SqL.of lg.e, rfl, _, _, rfl, _, _, rfl, _, _, rfl, _, _, rfl, rfl, L, lk, lc, lm, lt, kr, cl, ms, qs, ds, parts, keys, hands, rfl, lg, SameB.out sA sB np, tabs_keepB tA stA sB⟩
    clear stA tA sA
    clear HA
    rintro _ HA ⟨L, lk, lc, lm, lt, kr, cd, ms, qs, ds, parts, keys, hands, rfl, lg, sA, tA⟩
    refine ⟨fun σ' H' => ∃ pl f d c ks cl' es e0, σ' = [some (.ref a), some (.int i), some (.ref p), some (.ref lk), some (.ref lc), some (.ref lm), some (.ref lt), some (.ref pl), some (.ref f), v9, v10, v11, v12, v13, v14, v15] ∧ Fct kr cd ms qs ds ks cl' es parts keys hands ∧ RtF es ks cl' e0 kr ms ∧ e0.c.us.map (·.z) = srtW parts ∧ Lw PC C FC KC p lk lm lt pl f d c TL kr ms qs ds parts keys hands ks cl' es H1 H', ?_, ?_⟩
    · refine ⟨_, rfl, _, rfl, use_lplan lg.em lg.et lg.mo.1 lg.td lg.ww lg.ql lg.m1 lg.m7 fun pl es HB npl sB plB me ci => ?_⟩
      refine ⟨_, rfl, _, rfl, use_lfl (sB _ _ lg.ek) (fun k hk => sB _ _ (lg.ka k hk)) lg.ko lg.k4 (sB _ _ lg.ec) (fun q hq => sB _ _ (lg.ca q hq)) lg.co (by have := lg.c4; omega) lg.ww.pw fun f d c ks cl' HF nc sF fa ca al we => ?_⟩
      have sAF := sB.trans sF
      have stF := lg.st.keep sAF
      have F9 : Fct kr cd ms qs ds ks cl' es parts keys hands := ⟨al, lg.k1, lg.k4, lg.mo.1, lg.m1, lg.m7, lg.ww, lg.ql, me, ci, lg.co, we, lg.c4⟩
      obtain ⟨e0, h0, ez, mr⟩ := fst_of F9 lg.td
      have lwF : Lw PC C FC KC p lk lm lt pl f d c TL kr ms qs ds parts keys hands ks cl' es H1 HF := by
        refine ⟨sAF _ _ lg.ek, fun k hk => sAF _ _ (lg.ka k hk), sAF _ _ lg.em, lg.mp, sAF _ _ lg.et, lg.td.same sAF, stF, (plat_hide plB (lg.st.keep sB)).same fun q o e => ?_, fa_hide fa stF, fun q hq => hid_in (ca q hq) fun z => (stF.no (ca q hq) fun _ _ z => nomatch z) (List.mem_singleton.mp z), sA.trans sAF, Tabs.same tA sAF, np, (sA.trans sB).free nc⟩
        obtain ⟨e1, e2⟩ := hid_get e
        refine hid_in (sF _ _ e1) fun z => ?_
        simp only [List.mem_cons, List.not_mem_nil, or_false] at z
        rcases z with z | z
        · exact e2 (List.mem_singleton.mpr z)
        · rw [z, nc] at e1; cases e1
      refine ⟨by show 2 ≤ sizeLine; decide, fun t nt => ?_⟩
      have gt := same_new (o := .tup [.ref pl, .ref f]) nt
      exact ⟨t, _, rfl, SqT.of upd_same, rfl, _, _, rfl, _, _, rfl, rfl, pl, f, d, c, ks, cl', es, e0, rfl, F9, ⟨al, lg.k1, lg.k4, lg.mo.1, me, lg.m1, lg.m7, h0, mr⟩, ez, lwF.keep (SameB.of gt) (stF.keep gt)⟩
    clear sA tA lg
    clear HA L
    rintro _ HA ⟨pl, f, d, c, ks, cl', es, e0, rfl, F9, RF, ez, lw⟩
    have inv : ∀ {H' : Hp}, LamX.ExtN H1 H' → LamX.ExtN H H' := fun e => s1.trans e
    have m7 := F9.m7
    have m1 := F9.m1
    have k4 := F9.k4
    refine ⟨fun σ' H' => (∃ v9 v10 v11 v12 v13 v14 v15, σ' = [some (.ref a), some (.int i), some (.ref p), some (.ref lk), some (.ref lc), some (.ref lm), some (.ref lt), some (.ref pl), some (.ref f), v9, v10, v11, v12, v13, v14, v15]) ∧ Lw PC C FC KC p lk lm lt pl f d c TL kr ms qs ds parts keys hands ks cl' es H1 H', ?_, ?_⟩
    · refine ⟨_, rfl, lk, _, rfl, SqL.of lw.ek, fun l3 n3 => ?_⟩
      have g3 := same_new (o := .lst (kr.map fun k => V.ref k.t).reverse) n3
      refine ⟨2, rfl, l3, _, rfl, SqL.of upd_same, fun l4 n4 => ?_⟩
      have ctt : cutV (kr.map fun k => V.ref k.t).reverse none (some 2) = (kr.reverse.take 2).map fun k => V.ref k.t := by rw [show (2 : Int) = ((2 : Nat) : Int) from rfl, cut_take, ← List.map_reverse, List.map_take]
      rw [ctt]
      have g4 := same_new (o := .lst ((kr.reverse.take 2).map fun k => V.ref k.t)) n4
      have e4 : upd (upd HA l3 (.lst (kr.map fun k => V.ref k.t).reverse)) l4 (.lst ((kr.reverse.take 2).map fun k => V.ref k.t)) l4 = some (.lst ((kr.reverse.take 2).map fun k => V.ref k.t)) := upd_same
      have lwB := lw.same (g3.trans g4)
      generalize upd (upd HA l3 (.lst (kr.map fun k => V.ref k.t).reverse)) l4 (.lst ((kr.reverse.take 2).map fun k => V.ref k.t)) = HB at *
      clear ctt g3 g4 n3 n4 lw
      refine ⟨l4, rfl, ⟨_, SqL.of e4⟩, ?_⟩
      refine for_list (K := K) (a := l4) (xs := (kr.reverse.take 2).map fun k => V.ref k.t) (fun jk σ' H' => (∃ v9 v10 v11 v12 v13 v14 v15, σ' = [some (.ref a), some (.int i), some (.ref p), some (.ref lk), some (.ref lc), some (.ref lm), some (.ref lt), some (.ref pl), some (.ref f), v9, v10, v11, v12, v13, v14, v15]) ∧ Same HB H') ⟨⟨_, _, _, _, _, _, _, rfl⟩, .refl _⟩ (fun jk _ H' _ ⟨_, s⟩ => SqL.of (s _ _ e4)) ?_ ?_
      · clear v9 v10 v11 v12 v13 v14 v15
        rintro jk y σ' HC hy ⟨⟨v9, v10, v11, v12, v13, v14, v15, rfl⟩, sC⟩
        obtain ⟨kk, hkk, rfl⟩ := kr_at hy
        have mk : kk ∈ kr := List.mem_reverse.mp (List.mem_of_mem_take (List.mem_of_getElem? hkk))
        obtain ⟨ia, hia⟩ := List.getElem?_of_mem mk
        have lwC := lwB.same sC
        refine ⟨kk.t, _, rfl, SqT.of (lwC.ka kk mk), rfl, _, _, rfl, _, _, rfl, _, _, rfl, _, _, rfl, rfl, ?_⟩
        refine ⟨_, rfl, _, rfl, _, rfl, use_late (o := some kk.z) lwC.ek lwC.ka F9.al.ok k4 (fun z ez => by cases ez; exact List.mem_map_of_mem mk) fun HD sD => ?_⟩
        have lwD := lwC.same sD
        have uj : ∀ (Q2 : VK), (∀ r H', HD r = none → Same HD H' → PrsAt H' r (jmps ms (lateZ kr 5 (some kk.z))) → Q2 (.ref r) H') → spLJ [.ref lm, .int (lateZ kr 5 (some kk.z))] HD Q2 E0 := fun Q2 k2 => by
          unfold spLJ
          exact ⟨lm, ms, _, rfl, lwD.em, m1, m7, k2⟩
        refine uj _ fun kn HE nkn sE pk => ?_
        have lwE := lwD.same sE
        have sCE := (sC.trans sD).trans sE
        refine ⟨_, rfl, lm, _, rfl, .inl (SqL.of lwE.em), ms.length, by rw [List.length_map]; rfl, m1, m7, fun lp HG nlp sG pp => ?_⟩
        obtain ⟨us, ep, tp⟩ := pp
        have lwG := lwE.same sG
        have pkG := pk.same sG
        refine ⟨lp, rfl, ⟨_, SqL.of ep⟩, ?_⟩
        refine for_list (K := K) (a := lp) (xs := us.map V.ref) (fun j σ' H' => (∃ v14 v15, σ' = [some (.ref a), some (.int i), some (.ref p), some (.ref lk), some (.ref lc), some (.ref lm), some (.ref lt), some (.ref pl), some (.ref f), some (.str kk.z), some (.int kk.r.g), some (K26F.oV kk.r.a), some (K26F.sV kk.r.s), some (.ref kn), v14, v15]) ∧ Same HG H') ⟨⟨_, _, rfl⟩, .refl _⟩ (fun j _ H' _ ⟨_, s⟩ => SqL.of (s _ _ ep)) ?_ ?_
        · rintro jj y σ' HI hy2 ⟨⟨v14', v15', rfl⟩, sI⟩
          obtain ⟨t, ht, rfl⟩ : ∃ t, us[jj]? = some t ∧ y = .ref t := by
            rw [List.getElem?_map] at hy2
            cases c9 : us[jj]? with
            | none => rw [c9] at hy2; cases hy2
            | some t => rw [c9] at hy2; exact ⟨t, rfl, (Option.some.inj hy2).symm⟩
          obtain ⟨pr, hpr, et⟩ := tp.at_ ht
          obtain ⟨ii, ij, rfl, hi2, hj2⟩ := lawP_mem (List.mem_of_getElem? hpr) m1
          have etI := sI _ _ et
          have lwI := lwG.same sI
          have pkI := pkG.same sI
          refine ⟨_, rfl, _, rfl, _, rfl, _, rfl, t, _, 0, _, rfl, rfl, SqT.of etI, atI_nat (j := 0) rfl, _, rfl, t, _, 1, _, rfl, rfl, SqT.of etI, atI_nat (j := 1) rfl, ?_⟩
          refine use_jrun RF lwI.plA (lwI.flA F9.al) hia hi2 hj2 lwI.ek lwI.ka lwI.em lwI.et lwI.td F9.ww F9.ql (fun no H2 s2 => ?_) fun yes T9 tm te mcs mc ps pm pw a1 a2 d1 d2 H2 nT s2 eT ee ez2 P9 => ?_
          · refine ⟨_, rfl, rfl, _, rfl, _, rfl, ask_notInP (s2 _ _ etI) (pkI.same s2) ?_⟩
            rw [decide_eq_false no]
            refine ⟨rfl, _, rfl, iteFe (by decide) ?_⟩
            exact ⟨_, rfl, rfl, _, rfl, iteFe rfl ⟨⟨_, _, rfl⟩, sI.trans s2⟩⟩
          · refine ⟨_, rfl, rfl, _, rfl, _, rfl, ask_notInP (s2 _ _ etI) (pkI.same s2) ?_⟩
            rw [decide_eq_true yes]
            refine ⟨rfl, _, rfl, iteFe (by simp) ?_⟩
            have us : ∀ (Q2 : VK), (∀ H4, Same H2 H4 → Q2 (.bl true) H4) → spShJ [.ref lk, .ref lm, .ref lt, .str kk.z, .ref t, .ref T9] H2 Q2 E0 := fun Q2 k2 => by
              unfold spShJ
              exact ⟨lk, lm, tm, lt, kr, ms, mcs, mc, ps, pm, pw, ii, ij, a1, a2, qs, d1, d2, T9, te, t, by rw [ez2], P9, eT, ee, s2 _ _ etI, k2⟩
            exact ⟨_, rfl, rfl, _, rfl, iteTe rfl ⟨_, rfl, _, rfl, _, rfl, _, rfl, _, rfl, _, rfl, us _ fun H4 s4 => ⟨_, rfl, iteFe rfl ⟨⟨_, _, rfl⟩, sI.trans (s2.trans s4)⟩⟩⟩⟩
        · rintro σ' HI ⟨⟨v14', v15', rfl⟩, sI⟩
          exact ⟨⟨_, _, _, _, _, _, _, rfl⟩, sCE.trans (sG.trans sI)⟩
      · rintro σ' HC ⟨h, sC⟩
        exact ⟨h, lwB.same sC⟩
    clear lw
    clear HA
    rintro _ HA ⟨⟨x9, x10, x11, x12, x13, x14, x15, rfl⟩, lw⟩
    obtain ⟨k0, hk0⟩ : ∃ k0, kr[0]? = some k0 := ⟨_, List.getElem?_eq_getElem F9.k1⟩
    have mk0 := List.mem_of_getElem? hk0
    have wz : ∀ z ∈ e0.c.us.map (·.z), Wd z := fun z hz => by
      rw [ez] at hz
      exact F9.ww.pw z (srtW_mem.mp hz)
    have nr : ("nosuchro" : Str) ∉ e0.c.us.map (·.z) := fun m => absurd (wz _ m).2.2 (by decide)
    have mz : k0.z ∈ ks.map (·.1) := by rw [(alk_wk F9.al).2.2]; exact List.mem_map_of_mem mk0
    have al0 : (kr.map fun k => V.ref k.t)[0]? = some (.ref k0.t) := by rw [List.getElem?_map, hk0]; rfl
    refine ⟨fun σ' H' => (∃ v9 v10 v11 v12 v13 v14 v15, σ' = [some (.ref a), some (.int i), some (.ref p), some (.ref lk), some (.ref lc), some (.ref lm), some (.ref lt), some (.ref pl), some (.ref f), v9, v10, v11, v12, v13, v14, v15]) ∧ LamX.ExtN HA H' ∧ LamX.Tabs TL H', ?_, ?_⟩
    · refine ⟨_, rfl, _, rfl, _, rfl, lk, _, 0, _, rfl, rfl, SqL.of lw.ek, atI_nat (j := 0) al0, k0.t, _, 0, _, rfl, rfl, SqT.of (lw.ka k0 mk0), atI_nat (j := 0) rfl, ?_⟩
      refine ⟨pl, f, k0.z, es, ks, cl', e0, rfl, plat_noT (lw.plA), RF.e00, ⟨⟨d, c, fa_noT (lw.fc.keep hid_same)⟩, fun q hq => noT_at (hid_same _ _ (lw.cc q hq)) fun _ z => (nomatch z), (alk_wk F9.al).1, (alk_wk F9.al).2.1⟩, RF.mr, mz, F9.al.ok.wd k0 mk0, lw.tb, fun HB eB tB => ⟨_, rfl, iteFe rfl ⟨⟨_, _, _, _, _, _, _, rfl⟩, eB, tB⟩⟩⟩
    rintro _ HB ⟨⟨w9, w10, w11, w12, w13, w14, w15, rfl⟩, eB, tB⟩
    have pcB : PlAt PC C (hid [c] (noT HB)) pl es := (plat_noT lw.pc).same fun q o e => by
      obtain ⟨e1, nt⟩ := noT_get e
      obtain ⟨e2, n2⟩ := hid_get e1
      exact hid_in (noT_at (eB _ _ e2 nt) nt) fun z => n2 (List.mem_cons_of_mem _ z)
    have sN : Same (noT HA) HB := (noT_ext eB).trans noT_same
    have faN : K26F.FltAt FC KC (noT HB) f d c ks (cl'.map fun q => V.ref q.t) := (fa_noT (lw.fc.keep hid_same)).keep (noT_ext eB)
    have caN : ∀ q ∈ cl', ClAt (noT HB) q := fun q hq => noT_ext eB _ _ (noT_at (hid_same _ _ (lw.cc q hq)) fun _ z => (nomatch z))
    have ekB := sN _ _ (noT_at lw.ek fun _ z => (nomatch z))
    have eaB : HB k0.t = some _ := sN _ _ (noT_at (lw.ka k0 mk0) fun _ z => (nomatch z))
    have smB : LamX.ExtN H1 HB := fun q o e nt => eB q o (lw.sm _ _ e) nt
    have cn := F9.cn
    have nc := lw.nc
    have np := lw.np
    refine ⟨fun σ' H' => ∃ cl2, (∃ v9 v10 v11 v12 v13 v14 v15, σ' = [some (.ref a), some (.int i), some (.ref p), some (.ref lk), some (.ref lc), some (.ref lm), some (.ref lt), some (.ref pl), some (.ref f), v9, v10, v11, v12, v13, v14, v15]) ∧ LamX.ExtN H1 H' ∧ LamX.Tabs TL H' ∧ PlAt PC C (noT H') pl es ∧ FlAt FC KC (noT H') f ks cl2 ∧ missR cl2 (e0.c.us.map (·.z)) = some "nosuchro", ?_, ?_⟩
    · have faA := faN.keep noT_same
      obtain ⟨dxf, ef⟩ := id faA.at_
      refine ⟨_, rfl, f, dxf, _, rfl, ef, K26F.get_fno _ _ (by decide +kernel) (by decide +kernel), _, rfl, lk, _, 0, _, rfl, rfl, SqL.of ekB, atI_nat (j := 0) al0, k0.t, _, 0, _, rfl, rfl, SqT.of eaB, atI_nat (j := 0) rfl, _, rfl, lk, _, 0, _, rfl, rfl, SqL.of ekB, atI_nat (j := 0) al0, k0.t, _, 0, _, rfl, rfl, SqT.of eaB, atI_nat (j := 0) rfl, rfl, rfl, ?_⟩
      refine ⟨f, d, c, _, _, _, _, ks, _, rfl, faA, (alk_wk F9.al).1, .inr ⟨"nosuchro", rfl, by decide +kernel, by decide +kernel, .inr ⟨k0.z, rfl, mz, .inr ⟨k0.z, rfl, mz, .inr ⟨0, rfl, by decide, by decide +kernel, .inr ⟨by rw [List.length_map]; omega, fun t nt => ?_⟩⟩⟩⟩⟩⟩
      have g1 := same_new (o := .tup (K26F.callT "nosuchro" k0.z k0.z 0)) nt
      have ecal := faA.cal
      have tc : t ≠ c := fun q => by rw [q, ecal] at nt; cases nt
      have off : ∀ (q : Addr) (o : HO), HB q = some o → q ≠ c → upd (upd HB t (.tup (K26F.callT "nosuchro" k0.z k0.z 0))) c (.lst ((cl'.map fun q => V.ref q.t) ++ [.ref t])) q = some o := fun q o e n => by rw [upd_ne n]; exact g1 _ _ e
      have offN : ∀ (q : Addr) (o : HO), noT HB q = some o → q ≠ c → noT (upd (upd HB t (.tup (K26F.callT "nosuchro" k0.z k0.z 0))) c (.lst ((cl'.map fun q => V.ref q.t) ++ [.ref t]))) q = some o := fun q o e n => noT_at (off q o (noT_get e).1 n) (noT_get e).2
      have ecN : upd (upd HB t (.tup (K26F.callT "nosuchro" k0.z k0.z 0))) c (.lst ((cl'.map fun q => V.ref q.t) ++ [.ref t])) c = some (.lst ((cl'.map fun q => V.ref q.t) ++ [.ref t])) := upd_same
      have etN : upd (upd HB t (.tup (K26F.callT "nosuchro" k0.z k0.z 0))) c (.lst ((cl'.map fun q => V.ref q.t) ++ [.ref t])) t = some (.tup (K26F.callT "nosuchro" k0.z k0.z 0)) := by rw [upd_ne tc]; exact upd_same
      have tB2 := tabs_off (Tabs.same tB g1) (g1 _ _ ecal) (H' := upd (upd HB t (.tup (K26F.callT "nosuchro" k0.z k0.z 0))) c (.lst ((cl'.map fun q => V.ref q.t) ++ [.ref t]))) fun q o e n => by rw [upd_ne n]; exact e
      refine ⟨cl' ++ [⟨t, "nosuchro", k0.z, k0.z, 0⟩], ⟨_, _, _, _, _, _, _, rfl⟩, fun q o e nt => off q o (smB q o e nt) (ne_of_none e nc), tB2, pcB.same fun q o e => ?_, ⟨⟨d, c, ?_⟩, fun q hq => ?_, (alk_wk F9.al).1, (alk_wk F9.al).2.1⟩, missR_new RF.mr nr⟩
      · obtain ⟨e1, e2⟩ := hid_get e
        exact offN q o e1 fun z9 => e2 (List.mem_singleton.mpr z9)
      · rw [List.map_append]
        exact fa_off faN offN (noT_at ecN fun _ z => nomatch z)
      · rcases List.mem_append.mp hq with hq | hq
        · have e1 : noT HB q.t = some _ := caN q hq
          refine offN _ _ e1 fun z9 => ?_
          rw [z9, faN.cal] at e1; cases e1
        · rw [List.mem_singleton.mp hq]
          exact noT_at etN fun _ z => nomatch z
    rintro _ HC ⟨cl2, ⟨u9, u10, u11, u12, u13, u14, u15, rfl⟩, eC, tC, plC, flC, ms9⟩
    refine ⟨tC, fun H2 e2 t2 => ?_⟩
    have s9 := (noT_ext e2).trans noT_same
    refine ⟨_, rfl, _, rfl, 1, rfl, 1, rfl, jrn_miss (plC.same s9) (flC.same s9) RF.e00 ms9 fun d' H3 nd s3 ed => .inl ⟨d', .str "nosuchro", "'nosuchro'", rfl, rfl, ed, nos_shw, fun l1 nl1 => ?_⟩⟩
    have s4 := s3.trans (same_new (o := .lst [.str "name", .str "'nosuchro'"]) nl1)
    exact ⟨by show 2 ≤ sizeLine; decide, fun l2 nl2 => ask_two nl2 (okd (by decide +kernel)) (okd (by decide +kernel)) ⟨_, rfl, iteFe rfl ⟨_, _, _, _, _, _, _, _, _, _, _, _, _, _, _, rfl, inv (eC.trans (e2.trans (LamX.ExtN.of (same_new' s4 nl2)))), Tabs.same t2 (same_new' s4 nl2)⟩⟩⟩
  · rintro sg H1 ⟨v1, v2, v3, v4, v5, v6, v7, v8, v9, v10, v11, v12, v13, v14, v15, rfl, s1, t1⟩
    exact k _
end
end K26
namespace K26
open PySem PySem.Spec PyProof.Rows L2 Jg
local macro_rules | `(tactic| walk_at "rd1") => `(tactic| (first
  | refine ⟨_, rfl, ?_⟩
  | refine ⟨_, _, rfl, rfl, ?_⟩
  | refine ⟨_, _, rfl, ?_⟩
  | refine ⟨rfl, ?_⟩
  | (refine ⟨show (0 : Int) < _ by omega, ?_⟩)
  | (refine ⟨Or.inl ⟨by omega, by omega⟩, ?_⟩)
  | (refine ⟨Or.inr ⟨by omega, by omega⟩, ?_⟩)
  | (refine ⟨(⟨by decide, by decide, by decide⟩ : CPow _ _), ?_⟩)
  | refine Or.inl ⟨_, rfl, ?_⟩
  | refine Or.inr ⟨_, rfl, ?_⟩
  | fail "rd"))
local macro_rules | `(tactic| walk_at "rd") => `(tactic| repeat' walk_at "rd1")
open K26C (StA SameB Wd hid hid_in hid_get hid_same hid_mut)
theorem len_cinit {P : Program} {w : World} {K : PySem.W.Frag} {C CI : Addr} : ∀ vs H Q E, K26C.spCInit P w K C CI vs H Q E → vs.length = ["self", "roles", "vouchers", "needed", "signers"].length := fun vs H Q E h => by
  obtain ⟨x, dx, r, v, n, s, H0, rfl, _⟩ := h; rfl
theorem mak2 {P : Program} {w : World} {K : PySem.W.Frag} {mg : Str → Option Value} {base : Heap} {C CI : Addr} (D : IniK K C "Contents.__init__" K26C.s_Contents_init kws_NN) (m : mg "Contents" = some (.ref C)) (mk : PySem.W.makesIn K C = true) (kp : PySem.W.keepIn K (.ref C) = true)
    (body : ∀ f, BodyX P w K mg base ["self", "roles", "vouchers", "needed", "signers", "part", "role", "accepted", "used"] "Contents.__init__" K26C.s_Contents_init f 6 (K26C.spCInit P w K C CI)) : MakN P w K mg base (L2.CX P w) 7 "Contents" C 2 ["needed", "signers"] (fun vs zs => vs ++ zs) (K26C.spCInit P w K C CI) :=
  D.makN m mk kp K26C.sc_Contents_init len_cinit 2 [] (fun us mv ws => us ++ ws) (fun z => nomatch z) (fun q hq => nomatch hq) (fun r1 _ r3 => r1.append r3)
    (fun D doc pm an cdv ct us mv ws h1 h2 h3 => match us, mv, ws, h1, h2, h3 with | [_, _, _], [], [_, _], _, _, _ => rfl) body
theorem len_kinit {K : PySem.W.Frag} {C CI : Addr} : ∀ vs H Q E, K26F.spKInit K C CI vs H Q E → vs.length = ["self", "gap", "age", "source"].length := fun vs H Q E h => by
  obtain ⟨x, dx, u, v, s, H0, rfl, _⟩ := h; rfl
section
variable {P : Program} {w : World} {K : PySem.W.Frag} {mg : Str → Option Value} {base : Heap} {C CI : Addr} (D : IniK K C "Kind.__init__" K26F.s_Kind_init kws_NK) (m : mg "Kind" = some (.ref C)) (mk : PySem.W.makesIn K C = true) (kp : PySem.W.keepIn K (.ref C) = true)
    (body : ∀ f, BodyX P w K mg base ["self", "gap", "age", "source"] "Kind.__init__" K26F.s_Kind_init f 4 (K26F.spKInit K C CI))
include D m mk kp body
theorem mak3 : MakW P w K mg base (L2.CX P w) 5 "Kind" C ["gap", "age", "source"] K26F.g3 (K26F.spKInit K C CI) :=
  D.mak m mk kp K26F.sc_Kind_init len_kinit [] (fun us mv ws => us ++ ws) (fun z => nomatch z) (fun q hq => nomatch hq) (fun r1 _ r3 => r1.append r3)
    (fun D doc pm an cdv ct us mv ws h1 h2 h3 => match us, mv, ws, h1, h2, h3 with | [_], [], [_, _, _], _, _, _ => rfl) body
end
theorem len_add {K : PySem.W.Frag} {F C CA CU CM CO : Addr} : ∀ vs H Q E, K26F.spAdd K F C CA CU CM CO vs H Q E → vs.length = ["self", "role", "client", "server", "life"].length := fun vs H Q E h => by
  obtain ⟨f, d, c, y0, y1, y2, y3, ks, cs, rfl, _⟩ := h; rfl
section
variable {P : Program} {w : World} {K : PySem.W.Frag} {mg : Str → Option Value} {base : Heap} {C CA CU CM CO FC : Addr} (D : MthK K FC "add_call" "Fleet.add_call" K26F.s_Fleet_add_call kws_NA)
    (body : ∀ f, BodyX P w K mg base ["self", "role", "client", "server", "life"] "Fleet.add_call" K26F.s_Fleet_add_call f 4 (K26F.spAdd K FC C CA CU CM CO))
include D body
theorem metA : MetW P w K mg base (L2.CX P w) 5 FC "add_call" 4 ["life"] gA4 (K26F.spAdd K FC C CA CU CM CO) :=
  D.met K26F.sc_Fleet_add_call len_add 4 [] (fun us mv ws => us ++ ws) (fun z => nomatch z) (fun q hq => nomatch hq) (fun r1 _ r3 => r1.append r3)
    (fun D doc pm an cdv ct us mv ws h1 h2 h3 => match us, mv, ws, h1, h2, h3 with | [_, _, _, _], [], [_], _, _, _ => rfl) body
theorem metA0 : MetW P w K mg base (L2.CX P w) 5 FC "add_call" 4 [] (fun vs zs => vs ++ [.int 0] ++ zs) (K26F.spAdd K FC C CA CU CM CO) :=
  D.met K26F.sc_Fleet_add_call len_add 4 kws_NA (fun us mv ws => us ++ mv ++ ws) (fun z => nomatch z) (fun q hq => hq) (fun r1 r2 r3 => (r1.append r2).append r3)
    (fun D doc pm an cdv ct us mv ws h1 h2 h3 => match us, mv, ws, h1, h2, h3 with | [_, _, _, _], [_], [], _, _, _ => ⟨_, _, _, _, _, _, rfl, rfl, rfl⟩) body
end
theorem fin {P : Program} {w : World} {K : PySem.W.Frag} {mg : Str → Option Value} {fa C KC FC RC PC CI CU CK CO CA CM CE c0 P0 c1 P1 : Addr} (hfa : mg "law" = some (.ref fa))  {ts : List Addr} (hm0 : P0 ∈ ts) (ht0 : PySem.W.codeHdIn K c0 P0 = true) (nT0 : K.lookup P0 = none) (DL0 : DefC K mg "_law_refused_right" s_law_refused_right c0) (hm1 : P1 ∈ ts) (ht1 : PySem.W.codeHdIn K c1 P1 = true) (nT1 : K.lookup P1 = none) (DL1 : DefC K mg "law" s_law c1) (hne : P0 ≠ P1)(TC : K26C.Txt K mg) (J : K26C.CTx K mg C) (TK : K26F.Txt K mg KC) (TF : K26F.FTx K mg FC) (T4 : K26F.TxM K mg) (RT : K26R.Txt K mg RC) (TP : TxP K mg) (PT : PTx K mg PC) (W9 : TstF K CU CE) (m1 : PySem.W.makesIn K C = true) (m2 : PySem.W.keepIn K (.ref C) = true) (m3 : PySem.W.makesIn K KC = true) (m4 : PySem.W.keepIn K (.ref KC) = true) (m5 : PySem.W.makesIn K FC = true) (m6 : PySem.W.keepIn K (.ref FC) = true) (m7 : PySem.W.makesIn K RC = true) (m8 : PySem.W.keepIn K (.ref RC) = true) (m9 : PySem.W.makesIn K PC = true) (m10 : PySem.W.keepIn K (.ref PC) = true) (XI : K26F.ExnQ K mg "InvalidContents" CI "InvalidContents.__init__" K26C.s_InvalidContents_init "part") (XU : K26F.ExnQ K mg "UnknownName" CU "UnknownName.__init__" K26F.s_UnknownName_init "name") (XK : K26F.ExnQ K mg "InvalidKind" CK "InvalidKind.__init__" K26F.s_InvalidKind_init "value") (XO : K26F.ExnQ K mg "LimitExceeded" CO "LimitExceeded.__init__" K26F.s_LimitExceeded_init "limit") (XA : K26F.ExnQ K mg "InvalidCall" CA "InvalidCall.__init__" K26F.s_InvalidCall_init "value") (XM : K26F.ExnQ K mg "InvalidMoment" CM "InvalidMoment.__init__" K26F.s_InvalidMoment_init "value") (XE : K26F.ExnQ K mg "UnknownEdition" CE "UnknownEdition.__init__" s_UnknownEdition_init "number") (NN : IniK K C "Contents.__init__" K26C.s_Contents_init kws_NN) (NK : IniK K KC "Kind.__init__" K26F.s_Kind_init kws_NK) (NA : MthK K FC "add_call" "Fleet.add_call" K26F.s_Fleet_add_call kws_NA) (d1 : DefK K mg "is_integer" K26C.s_is_integer) (d2 : DefK K mg "is_word" K26C.s_is_word) (d3 : DefK K mg "are_different_keys" K26C.s_are_different_keys) (d4 : DefK K mg "_is_use" K26C.s_is_use) (d5 : DefK K mg "_are_roles" K26C.s_are_roles) (d6 : DefK K mg "_wrong_part" K26C.s_wrong_part) (d7 : DefK K mg "_in_order" K26C.s_in_order) (d8 : PrpK K C "roles" "Contents.roles" K26C.s_Contents_roles) (d9 : DefK K mg "_law_stream" K26C.s_law_stream) (d10 : DefK K mg "_law_draw" K26C.s_law_draw) (d11 : DefK K mg "_law_choose" K26C.s_law_choose) (d12 : DefK K mg "_law_some" K26C.s_law_some) (d13 : DefK K mg "_law_words" K26C.s_law_words) (d14 : DefK K mg "_law_told" K26C.s_law_told) (d15 : DefK K mg "_law_turned" K26C.s_law_turned) (d16 : DefK K mg "_law_next" K26C.s_law_next) (d17 : DefK K mg "_law_tolds" K26C.s_law_tolds) (d18 : DefK K mg "_law_contents" K26C.s_law_contents) (d19 : DefK K mg "_law_vouched" K26C.s_law_vouched) (d20 : DefK K mg "is_integer" K26F.s_is_integer) (d21 : DefK K mg "is_between" K26F.s_is_between) (d22 : DefK K mg "is_word" K26F.s_is_word) (d23 : DefK K mg "_checked_gap" K26F.s_checked_gap) (d24 : DefK K mg "_checked_age" K26F.s_checked_age) (d25 : DefK K mg "_checked_source" K26F.s_checked_source) (d26 : PrpK K KC "gap" "Kind.gap" K26F.s_Kind_gap) (d27 : PrpK K KC "age" "Kind.age" K26F.s_Kind_age) (d28 : PrpK K KC "source" "Kind.source" K26F.s_Kind_source) (d29 : DefK K mg "_copied" K26F.s_copied) (d30 : DefK K mg "_chain_to" K26F.s_chain_to) (d31 : MetK K FC "__init__" "Fleet.__init__" K26F.s_Fleet_init) (d32 : MetK K FC "__setitem__" "Fleet.__setitem__" K26F.s_Fleet_setitem) (d33 : MetK K FC "_check" "Fleet._check" K26F.s_Fleet_check) (d34 : MetK K FC "chain" "Fleet.chain" K26F.s_Fleet_chain) (d35 : MetK K FC "lateness" "Fleet.lateness" K26F.s_Fleet_lateness) (d36 : MetK K FC "calls" "Fleet.calls" K26F.s_Fleet_calls) (d37 : MetK K FC "__getitem__" "Fleet.__getitem__" K26F.s_Fleet_getitem) (d38 : DefK K mg "is_integer" K26R.s_is_integer) (d39 : DefK K mg "is_bounded" K26R.s_is_bounded) (d40 : MetK K RC "__init__" "Range.__init__" K26R.s_Range_init) (d41 : PrpK K RC "last" "Range.last" K26R.s_Range_last) (d42 : DefK K mg "is_moment" s_is_moment) (d43 : DefK K mg "is_index" s_is_index) (d44 : DefK K mg "is_tuple_of" s_is_tuple_of) (d45 : DefK K mg "_is_edition" s_is_edition) (d46 : DefK K mg "_first_wrong" s_first_wrong) (d47 : MetK K PC "__init__" "Plan.__init__" s_Plan_init) (d48 : MetK K PC "__len__" "Plan.__len__" s_Plan_len) (d49 : MetK K PC "_check" "Plan._check" s_Plan_check) (d50 : MetK K PC "moment_of" "Plan.moment_of" s_Plan_moment_of) (d51 : MetK K PC "contents_of" "Plan.contents_of" s_Plan_contents_of) (d52 : MetK K PC "moments" "Plan.moments" s_Plan_moments) (d53 : DefK K mg "span" s_span) (d54 : DefK K mg "held_span" s_held_span) (d55 : DefK K mg "check_roles" s_check_roles) (d56 : DefK K mg "last_jump" s_last_jump) (d57 : DefK K mg "jump_pairs" s_jump_pairs) (d58 : DefK K mg "jumps" s_jumps) (d59 : DefK K mg "jump_run" s_jump_run) (d60 : DefK K mg "_last_reading" s_last_reading) (d61 : DefK K mg "source_number" s_source_number) (d62 : DefK K mg "source_machines" s_source_machines) (d63 : DefK K mg "holding_machines" s_holding_machines) (d64 : DefK K mg "_law_kinds" s_law_kinds) (d65 : DefK K mg "_law_calls" s_law_calls) (d66 : DefK K mg "_law_moments" s_law_moments) (d67 : DefK K mg "_law_plan" s_law_plan) (d68 : DefK K mg "_law_fleet" s_law_fleet) (d69 : DefK K mg "_law_late" s_law_late) (d70 : DefK K mg "_law_large" s_law_large) (d71 : DefK K mg "_law_pairs" s_law_pairs) (d72 : DefK K mg "_law_jumps" s_law_jumps) (d73 : DefK K mg "_law_current" s_law_current) (d74 : DefK K mg "_law_holds" s_law_holds) (d75 : DefK K mg "_law_reading" s_law_reading) (d76 : DefK K mg "_law_copy" s_law_copy) (d77 : DefK K mg "_law_machine" s_law_machine) (d78 : DefK K mg "_law_played" s_law_played) (d79 : DefK K mg "_law_is_shown" s_law_is_shown) (d80 : DefK K mg "_law_failed" s_law_failed) :
    ∃ (Ts : List (Addr × Addr)) (fd : FuncData) (sp : Sp), (∀ q ∈ Ts, q.2 ∈ ts ∧ PySem.W.codeHdIn K q.1 q.2 = true ∧ K.lookup q.2 = none) ∧ (∀ (s : Shared) (v : Value), BindsTo s fd ⟨[v], []⟩ [("script", v)]) ∧
      (∀ (H : Hp) (a : Addr) (ns : List Int), ns.length ≤ 63 → (∀ q ∈ Ts, H q.2 = some (.tbl #[])) → SqL K H a (ns.map V.int) → sp [.ref a] H (fun v _ => v = .bl true) fun _ _ _ => False) ∧
      ∀ base : Heap, K.In base → base.Ns mainGlobals mg → (∀ q ∈ Ts, LamX.TabB base mg q.1 q.2) → FnG P w K mg base CX0 26 fa fd ["script"] sp := by
  obtain ⟨f, kV, doc, pm, an, ct, m, F⟩ := DL1.fnL
  rw [hfa] at m
  cases m
  have hts : ∀ {Z : Addr × Addr → Prop}, Z (c0, P0) → Z (c1, P1) → ∀ q ∈ [(c0, P0), (c1, P1)], Z q := fun h0 h1 q hq => (List.mem_cons.mp hq).elim (fun e => e ▸ h0) fun hq => List.mem_singleton.mp hq ▸ h1
  refine ⟨[(c0, P0), (c1, P1)], PySem.W.fnOf "law" "law" (defArgs s_law) (defBody s_law) (defScope s_law) .none kV doc pm an (.ref c1) ct, spLaw K [(P0, qlam), (P1, qlaw)], hts ⟨hm0, ht0, nT0⟩ ⟨hm1, ht1, nT1⟩, fun s v => .of_eq rfl, fun H a ns hl hT hS => ⟨a, ns, rfl, hS, hl, fun p hp => ?_, fun _ => rfl⟩, fun base _ _ TBs => ?_⟩
  · rcases List.mem_cons.mp hp with rfl | hp
    · exact LamX.TabS.nil (hT (c0, P0) (List.Mem.head _))
    · rw [List.mem_singleton.mp hp]; exact LamX.TabS.nil (hT (c1, P1) (List.Mem.tail _ (List.Mem.head _)))
  · have TB0 := TBs (c0, P0) (List.Mem.head _)
    have TB1 := TBs (c1, P1) (List.Mem.tail _ (List.Mem.head _))
    have hmT0 : (P0, qlam) ∈ [(P0, qlam), (P1, qlaw)] := List.Mem.head _
    have hmT1 : (P1, qlaw) ∈ [(P0, qlam), (P1, qlaw)] := List.Mem.tail _ (List.Mem.head _)
    have huT0 : ∀ p ∈ [(P0, qlam), (P1, qlaw)], p.1 = P0 → p.2 = qlam := fun p hp e => by
      rcases List.mem_cons.mp hp with rfl | hp
      · rfl
      · rw [List.mem_singleton.mp hp] at e; exact absurd e.symm hne
    have huT1 : ∀ p ∈ [(P0, qlam), (P1, qlaw)], p.1 = P1 → p.2 = qlaw := fun p hp e => by
      rcases List.mem_cons.mp hp with rfl | hp
      · exact absurd e hne
      · rw [List.mem_singleton.mp hp]
    have g1 := K26C.ok_is_integer (P := P) (w := w) (base := base)  d1 TC
    have g2 := K26C.ok_is_word (P := P) (w := w) (base := base)  d2 TC
    have g3 := K26C.ok_keys (P := P) (w := w) (base := base)  d3 TC g2
    have g4 := K26C.ok_order (P := P) (w := w) (base := base)  d7 TC
    have g5 := K26C.ok_use (P := P) (w := w) (base := base)  d4 TC g2 g3
    have g6 := K26C.ok_roles (P := P) (w := w) (base := base)  d5 TC g2 g5
    have g7 := K26C.ok_wrong (P := P) (w := w) (base := base)  d6 TC g1 g3 g6
    have XIc : K26C.ExnQ K mg "InvalidContents" CI "InvalidContents.__init__" K26C.s_InvalidContents_init "part" := ⟨XI.mg_, XI.ovr, XI.xk, XI.no, XI.ini, XI.te⟩
    have g9 := K26C.ok_cxinit (P := P) (w := w) (base := base)  XIc
    have M2 := mak2 (CI := CI) NN J.cC m1 m2 (K26C.body_cinit (P := P) (w := w) (base := base) TC J (by assumption) (by assumption) (by assumption))
    have g12 := K26C.ok_croles (P := P) (w := w) (base := base)  d8 TC J
    have g13 := K26C.ok_stream (P := P) (w := w) (base := base)  d9 TC
    have g14 := K26C.ok_draw (P := P) (w := w) (base := base)  d10
    have g15 := K26C.ok_choose (P := P) (w := w) (base := base)  d11 TC g14
    have g16 := K26C.ok_words (P := P) (w := w) (base := base)  d13 TC g14 g15
    have gdr : Cal P w K mg base CX0 1 "_law_draw" K26C.spDr := K26C.drI (by assumption)
    have gch : Cal P w K mg base CX0 2 "_law_choose" (K26C.spCh K) := K26C.chI (by assumption)
    have g19 := K26C.ok_some (P := P) (w := w) (base := base)  d12 gdr
    have g20 := K26C.ok_told (P := P) (w := w) (base := base)  d14 gdr gch g19
    have gtI : Cal P w K mg base CX0 3 "_law_told" (K26C.spToldI K) := by unfold K26C.spToldI; assumption
    have g22 := K26C.ok_turned (P := P) (w := w) (base := base)  d15
    have g23 := K26C.ok_next (P := P) (w := w) (base := base)  d16 TC gdr gch g19 g22
    have g24 := K26C.ok_tolds (P := P) (w := w) (base := base)  d17 TC gdr gtI g23
    have g25 := K26C.ok_con (P := P) (w := w) (base := base)  d18 TC J M2
    have g26 := K26C.ok_vou (P := P) (w := w) (base := base)  d19 TC
    have g27 := K26F.ok_is_integer (P := P) (w := w) (base := base)  d20 TK
    have g28 := K26F.ok_is_between (P := P) (w := w) (base := base)  d21 TK g27
    have g29 := K26F.ok_is_word (P := P) (w := w) (base := base)  d22 TK
    have g30 := K26F.ok_kinit (P := P) (w := w) (base := base)  XK
    have g31 := K26F.ok_uinit (P := P) (w := w) (base := base)  XU
    have g32 := K26F.ok_linit (P := P) (w := w) (base := base)  XO
    have g33 := K26F.ok_cinit (P := P) (w := w) (base := base)  XA
    have g34 := K26F.ok_minit (P := P) (w := w) (base := base)  XM
    have g35 := K26F.ok_cg (P := P) (w := w) (base := base)  d23 TK g28 g30
    have g36 := K26F.ok_ca (P := P) (w := w) (base := base)  d24 TK g28 g30
    have g37 := K26F.ok_cs (P := P) (w := w) (base := base)  d25 TK g29 g30
    have hb := K26F.body_kinit (P := P) (w := w) (base := base) TK (by assumption) (by assumption) (by assumption)
    have M3 := mak3 (CI := CK) NK TK.cKind m3 m4 hb
    have g41 := K26F.ok_gap (P := P) (w := w) (base := base)  d26 TK
    have g42 := K26F.ok_age (P := P) (w := w) (base := base)  d27 TK
    have g43 := K26F.ok_source (P := P) (w := w) (base := base)  d28 TK
    have g44 := K26F.ok_copied (P := P) (w := w) (base := base)  d29 TK M3 g41 g42 g43
    have g45 := K26F.ok_chain_to (P := P) (w := w) (base := base)  d30 TK TF g43
    have g46 := K26F.ok_finit (P := P) (w := w) (base := base) (C := KC) d31 TF
    have MF : Mak P w K mg base CX0 1 "Fleet" FC (K26F.spFInit FC KC) := ⟨TF.cFleet, m5, m6, by assumption⟩
    have g48 := K26F.ok_fset (P := P) (w := w) (base := base)  d32 TK TF g29 g43 g44 g45 g30 g31 g32
    have g49 := K26F.ok_fcheck (P := P) (w := w) (base := base)  d33 TK TF g29 g31
    have g50 := K26F.ok_fchain (P := P) (w := w) (base := base)  d34 TK TF g49 g45
    have g51 := K26F.ok_flate (P := P) (w := w) (base := base)  d35 TK TF g50 g41 g42
    have g52 := K26F.ok_fcalls (P := P) (w := w) (base := base) (C := KC) d36 TK TF
    have ba := K26F.body_add (P := P) (w := w) (base := base) TK T4 TF (by assumption) (by assumption) (by assumption) (by assumption) (by assumption) (by assumption)
    have MA := metA NA ba
    have MA0 := metA0 NA ba
    have g58 := K26F.ok_fget (P := P) (w := w) (base := base)  d37 TK TF g49 g44
    have g59 := K26R.ok_is_integer (P := P) (w := w) (base := base)  d38 RT
    have g60 := K26R.ok_is_bounded (P := P) (w := w) (base := base)  d39 RT g59
    have g61 := K26R.ok_init (P := P) (w := w) (base := base)  d40 RT g60
    have MR : Mak P w K mg base CX0 3 "Range" RC (K26R.spInit RC) := ⟨RT.cRange, m7, m8, by assumption⟩
    have g63 := K26R.ok_last (P := P) (w := w) (base := base)  d41 RT
    have g64 := ok_is_moment (P := P) (w := w) (base := base)  d42 TP g28
    have g65 := ok_is_index (P := P) (w := w) (base := base)  d43 g28
    have g66 := ok_is_tuple_of (P := P) (w := w) (base := base)  d44 TP
    have g67 := ok_is_edition (P := P) (w := w) (base := base)  d45 TP J g66 g64
    have g68 := ok_first_wrong (P := P) (w := w) (base := base)  d46 TP J g67 g12
    have g69 := ok_ueinit (P := P) (w := w) (base := base)  XE
    have g70 := ok_pinit (P := P) (w := w) (base := base)  d47 TP PT g68
    have MP : Mak P w K mg base CX0 6 "Plan" PC (spPInit PC C) := ⟨PT.cPlan, m9, m10, by assumption⟩
    have g72 := ok_plen (P := P) (w := w) (base := base) (C := C) d48 TP PT
    have g73 := ok_pcheck (P := P) (w := w) (base := base) (C := C) d49 TP PT g65 g69
    have g74 := ok_pmo (P := P) (w := w) (base := base) (C := C) d50 TP PT g73
    have g75 := ok_pco (P := P) (w := w) (base := base) (C := C) d51 TP PT g73
    have g76 := ok_pmoms (P := P) (w := w) (base := base) (C := C) d52 PT
    have g77 := ok_span (P := P) (w := w) (base := base)  d53 TP MR
    have g78 := ok_hspan (P := P) (w := w) (base := base)  d54 g77
    have g79 := ok_chr (P := P) (w := w) (base := base)  d55 J TF g52 g12 g31
    have g80 := ok_lastj (P := P) (w := w) (base := base)  d56
    have g81 := ok_jpairs (P := P) (w := w) (base := base)  d57 TP g80
    have g82 := ok_jumps (P := P) (w := w) (base := base)  d58 PT TF g79 g75 g76 g51 g81
    have g83 := ok_lsr (P := P) (w := w) (base := base)  d60 PT TF RT g51 g76 g78 g63
    have g84 := ok_srcn (P := P) (w := w) (base := base)  d61 TP
    have h0 : Cal P w K mg base CX0 12 "holding_machines" (spHold PC C FC KC 0) := ok_hold0 (by assumption)
    have s0 : Cal P w K mg base CX0 13 "source_machines" (spSrc PC C FC KC 0) := ok_src (fu := 0) (by assumption) h0
    have h1 : Cal P w K mg base CX0 14 "holding_machines" (spHold PC C FC KC 1) := ok_hold (fu := 0) d63 TP TK TF g58 g41 g42 g43 g83 g84 s0
    have s1 : Cal P w K mg base CX0 15 "source_machines" (spSrc PC C FC KC 1) := ok_src (fu := 1) (by assumption) h1
    have h2 : Cal P w K mg base CX0 16 "holding_machines" (spHold PC C FC KC 2) := ok_hold (fu := 1) d63 TP TK TF g58 g41 g42 g43 g83 g84 s1
    have s2 : Cal P w K mg base CX0 17 "source_machines" (spSrc PC C FC KC 2) := ok_src (fu := 2) (by assumption) h2
    have h3 : Cal P w K mg base CX0 18 "holding_machines" (spHold PC C FC KC 3) := ok_hold (fu := 2) d63 TP TK TF g58 g41 g42 g43 g83 g84 s2
    have s3 : Cal P w K mg base CX0 19 "source_machines" (spSrc PC C FC KC 3) := ok_src (fu := 3) (by assumption) h3
    have h4 : Cal P w K mg base CX0 20 "holding_machines" (spHold PC C FC KC 4) := ok_hold (fu := 3) d63 TP TK TF g58 g41 g42 g43 g83 g84 s3
    have g94 := ok_jrun (P := P) (w := w) (base := base)  d59 TP PT TF TK g82 g74 g58 g43 s3 g84 h4
    have g95 := ok_moments (P := P) (w := w) (base := base)  d66 TP gdr
    have g96 := ok_kinds (P := P) (w := w) (base := base)  d64 TP gdr gch g16
    have g97 := ok_calls (P := P) (w := w) (base := base)  d65 TP gdr gch
    have g98 := ok_lplan (P := P) (w := w) (base := base)  d67 TP MP g25
    have g99 := ok_lfleet (P := P) (w := w) (base := base)  d68 TF MF M3 g48 MA
    have g100 := ok_large (P := P) (w := w) (base := base)  d70 TP gdr gch g16 g96 g97 g95 g24
    have gl5 : Cal P w K mg base CX0 6 "_law_late" (spLLate 5) := ok_late (by assumption) 5
    have g102 := ok_lpairs (P := P) (w := w) (base := base)  d71 TP
    have g103 := ok_ljumps (P := P) (w := w) (base := base)  d72 TP g102
    have g104 := ok_curr (P := P) (w := w) (base := base)  d73 TP
    have g105 := ok_holds (P := P) (w := w) (base := base)  d74
    have g106 := ok_read (P := P) (w := w) (base := base)  d75 TP TC g104 g105
    have g107 := ok_cpy (P := P) (w := w) (base := base)  d76 TP g105
    have g108 := ok_mach (P := P) (w := w) (base := base)  d77 TP g106 g107 g26
    have g109 := ok_played (P := P) (w := w) (base := base)  d78 TP g108
    have g110 := ok_shj (P := P) (w := w) (base := base)  d79 TP g109 g26
    have g111 := ok_rfr (P := P) (w := w) (base := base)  DL0 d80 TP PT XU XE W9 TB0 hmT0 huT0 g94 g72
    exact F P w base 25 _ _ _ sc_law (fun vs H Q E h => by obtain ⟨a, ns, rfl, _⟩ := h; rfl) fun ff A outer s H vs Q E g hr h =>
      let ⟨t, a, q⟩ := body_law d80 TP TF XU XE W9 TB1 hmT1 huT1 g13 g100 g98 g99 gl5 g102 g103 g110 g94 g111 MA0 ff A outer s H vs Q E (guards_deeper g) hr h
      ⟨t, a, q⟩
end K26
theorem PySem.Challenge.cw_gaplesskeys_k26_runs_that_jump_holds : PySem.Challenge.rw_gaplesskeys_k26_runs_that_jump.Holds :=
  K26.head0 (@K26.fin)
#print axioms PySem.Challenge.cw_gaplesskeys_k26_runs_that_jump_holds
