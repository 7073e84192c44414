import PyProof.Rows.All
import Wide.All
import OpenK.AllK
import Wide.FinOn
import HandS.ForMost
import HandS.IsInst
import HandS.ClsMeth
import HandS.Property
import HandS.Strs
import HandS.Wide
import PyProof.LongRange
import HandS.Exc
import PyProof.Rows.NestShow
import HandS.OwnEq
import HandS.SetFor
import HandS.ExcInit
import HandS.ExcField
import HandS.ExcOwn
import HandS.WordsExc
import KE.KExcIs
import HandS.Small
import PyProof.Rows.Range3
import KE.KExcInit
import HandS.MakeKwOnly
import PyProof.ExcBaseAll.LookupError
import PyProof.ExcBaseAll.ValueError
import PyProof.ExcBaseAll.OverflowError
import PyProof.ExcBaseAll.RuntimeError
import PyProof.InstEq
import PyProof.EqKinds
import KE.KEqDict
import PyProof.CallStr
import HandS.More
import HandS.Replace
import HandS.Text
import PyProof.ListStr
import PyProof.StrOps2
import HandS.Comp
import PyProof.Rows.SortStr
import PyProof.Rows.StrMeet
import HandS.List
import HandS.Dict
import HandS.DictEq
import PyProof.SumAny
import KE.SortData
import PyProof.ReprRoads
import HandS.Style
import PyProof.ReprBulk
import HandS.NoneIn
import HandS.Iter
import HandS.Walk
import HandS.WordsDict
import HandS.ExcIs
import HandS.Codes
import HandS.Lambda
import HandS.Zip
import HandS.Finally
import HandS.Conv
import HandS.DeepEq
import HandS.FStr
import HandS.StrSplit
import HandS.Steps
import HandS.StrMore
import KE.RegKIsAll
import KE.KOpsOwn
import HandS.TupSets
import PyProof.SeqIndex
import HandS.TryOnly
import HandS.RaiseMore
import HandS.Star
import HandS.EndTab
import KE.KNestM
import HandS.Base
import HandS.Call
import HandS.Deep
import PyProof.FactsAll.dict_1
import PyProof.FactsAll.subtypes_4
import PyProof.FactsAll.subtypes_3
import HandS.GenList
import HandS.Sort
import HandS.FltList
import KE.KDictZip
import HandS.DictTup
import HandS.Flow
import PySem.Challenge.RW_gaplesskeys_k09_plans_edited
set_option Elab.async false
set_option linter.all false
set_option maxRecDepth 100000
set_option maxHeartbeats 4000000
namespace Jg
open PySem PySem.Spec PyProof.Rows L2
end Jg
namespace Jg
open PySem PySem.Spec PyProof.Rows L2
/-- a def's promise where no repr is under way -/
structure FnG (P : Program) (w : World) (K : PySem.W.Frag) (mg : Str → Option Value) (base : Heap) (CX : CXT) (k : Nat) (f : Addr) (fd : FuncData) (ps : List Str) (sp : Sp) : Prop where
  len : ∀ vs H Q E, sp vs H Q E → vs.length = ps.length
  run : ∀ (A : Around), A.guards = some [] → ∀ (outer : List Env) (s : Shared) (H : Hp) (args : Args) (us : List Value) (vs : List V) (Q : VK) (E : XK), Room k A → Env0 P w K mg base A outer s H → BindsTo s fd args (ps.zip us) → Vals vs us → sp vs H Q E →
    codeAny (model P w) A (.call (.ref f) args) (CR CX outer P w H s Q E) s
theorem FnG.of {P : Program} {w : World} {K : PySem.W.Frag} {mg : Str → Option Value} {base : Heap} {CX : CXT} {k : Nat} {f : Addr} {fd : FuncData} {ps : List Str} {sp : Sp} (F : FnOk P w K mg base CX k f fd ps sp) : FnG P w K mg base CX k f fd ps sp :=
  ⟨F.len, fun A _ => F.run A⟩
theorem FnG.mono {P : Program} {w : World} {K : PySem.W.Frag} {mg : Str → Option Value} {base : Heap} {CX : CXT} {j k : Nat} {f : Addr} {fd : FuncData} {ps : List Str} {sp : Sp} (F : FnG P w K mg base CX j f fd ps sp) (h : j ≤ k) :
    FnG P w K mg base CX k f fd ps sp := ⟨F.len, fun A g outer s H args us vs Q E hr => F.run A g outer s H args us vs Q E (hr.mono h)⟩
theorem law_callG {P : Program} {w : World} {K : PySem.W.Frag} {mg mb : Str → Option Value} {CX : CXT} {k : Nat} {fa a : Addr} {fd : FuncData} {x : Str} {sp : Sp} {s₁ : Shared} {vs : List Value} {ns : List Int}
    (KX : K.In s₁.heap) (hns : s₁.heap.Ns mainGlobals mg) (hb : s₁.heap.Ns builtinsNs mb) (hbb : ∀ x : Str, x ≠ "__name__" → mb x = bootBuiltins x) (hlim : s₁.heap.NoLimit) (hg : s₁.gens = #[])
    (ha : s₁.heap.get? a = some { cls := .type "list", data := .seq vs.toArray }) (hi : IntsAre vs ns) (hl : ns.length ≤ sizeLine) (hr : Room k callerA)
    (F : ∀ base : Heap, K.In base → base.Ns mainGlobals mg → FnG P w K mg base CX k fa fd [x] sp) (hbind : ∀ (s : Shared) (u : Value), BindsTo s fd ⟨[u], []⟩ [(x, u)])
    (hsp : ∀ H : Hp, Only H → SqL K H a (ns.map V.int) → sp [.ref a] H (fun v _ => v = .bl true) fun _ _ _ => False)
    (hCX : ∀ H e s', CX [] H s₁ (fun _ _ _ => False) e s' → False) :
    codeAny (model P w) callerA (.call (.ref fa) ⟨[.ref a], []⟩) (fun r s' => r = .ok (.ret (.bool true)) ∧ OldK s₁.heap s'.heap ∧ s'.os = s₁.os ∧ AllBare s'.gens) s₁ := by
  have lenV := hi.length
  let scriptO : Obj := { cls := .type "list", data := .seq vs.toArray }
  -- what is tracked: the script, unless it is one of the module's own objects
  let H : Hp := fun b => if b = a ∧ K.lookup a = none then some (.frz scriptO (.lst (ns.map V.int))) else none
  have H1 : ∀ b u, H b = some u → b = a ∧ K.lookup a = none ∧ u = .frz scriptO (.lst (ns.map V.int)) := fun b u e => by
    show b = a ∧ _ ∧ _
    by_cases c : b = a ∧ K.lookup a = none
    · have e' : some (HO.frz scriptO (.lst (ns.map V.int))) = some u := (if_pos c).symm.trans e
      exact ⟨c.1, c.2, (Option.some.inj e').symm⟩
    · have e' : (none : Option HO) = some u := (if_neg c).symm.trans e
      cases e'
  have only : Only H := fun b => by
    cases e : H b with
    | none => exact .inl rfl
    | some u =>
      obtain ⟨_, _, rfl⟩ := H1 b u e
      exact .inr ⟨_, _, rfl⟩
  have seq : SqL K H a (ns.map V.int) := by
    cases hk : K.lookup a with
    | none => exact .inl (.inr ⟨scriptO, if_pos ⟨rfl, hk⟩⟩)
    | some o =>
      have e := KX a o hk
      rw [ha] at e
      cases e
      exact .inr ⟨_, vs.toArray, _, hk, rfl, rfl, rfl, by rw [List.size_toArray, lenV]; exact hl, by simpa using vals_ints hi⟩
  have ok : HOk P w H s₁.heap := fun b u e => by
    obtain ⟨rfl, _, rfl⟩ := H1 b u e
    exact ⟨ha, by rw [List.length_map]; exact hl, vs, _, vals_ints hi, ha⟩
  -- objects of other kinds than the script are not tracked
  have dictFree : ∀ {b : Addr} {o : Obj} {es : Array DictEntry} {ep : Nat}, s₁.heap.get? b = some o → o.data = .dict es ep → H b = none := fun {b o es ep} e d => by
    cases q : H b with
    | none => rfl
    | some u =>
      obtain ⟨rfl, _, _⟩ := H1 b u q
      rw [ha] at e
      cases e
      exact nomatch (show Data.seq vs.toArray _ = Data.dict es ep from d)
  have ns0 : ∀ {b : Addr} {m : Str → Option Value}, s₁.heap.Ns b m → (hidT s₁.heap H).Ns b m := fun {b m} ⟨o, es, ep, e, d, r⟩ => ⟨o, es, ep, hidT_get e (dictFree e d), d, r⟩
  have kin0 : K.In (hidT s₁.heap H) := fun b o e => hidT_get (KX b o e) (by
    cases q : H b with
    | none => rfl
    | some u =>
      obtain ⟨rfl, hk, _⟩ := H1 b u q
      rw [hk] at e; cases e)
  have md : Mod K mg (hidT s₁.heap H) := ⟨kin0, ns0 hns, ⟨mb, ns0 hb, hbb⟩, let ⟨mc, c1, c2⟩ := hlim; ⟨mc, ns0 c1, c2⟩⟩
  have e0 : Env0 P w K mg (hidT s₁.heap H) callerA [] s₁ H := ⟨rfl, md, fun b o e => of_hidT e, Nat.le_of_eq (hidT_size _ _), trivial, fun b hb => absurd (show b ∈ ([] : List Addr) from hb) (by simp), ok, .of_eq hg⟩
  have go := (F _ kin0 (ns0 hns)).run callerA rfl [] s₁ H ⟨[.ref a], []⟩ [.ref a] [.ref a] _ _ hr e0 (hbind s₁ (.ref a)) (.cons rfl .nil) (hsp H only seq)
  refine codeAny_mono go fun r s' h => ?_
  match r, h with
  | .error e, h => exact (hCX H e s' h).elim
  | .ok (.ret u), ⟨v, H', os, bare, un, hok', r', q⟩ =>
    have q' : v = .bl true := q
    subst q'
    cases (show u = Value.bool true from r')
    refine ⟨rfl, OldK.of_keep fun b o e => ?_, os, bare⟩
    cases q : H b with
    | none => exact un.keep b o e q (fun z => absurd (show b ∈ ([] : List Addr) from z) (by simp)) (by simp)
    | some u =>
      obtain ⟨rfl, _, rfl⟩ := H1 b u q
      have w2 := (hok' _ _ (un.frzs _ _ _ q)).1
      rw [ha] at e
      cases e
      exact w2
theorem walk_ofG {l : PySem.W.OpenLaw} {n k : Nat} {q : Program} {loose : List Str} {XP : (Str → Option Value) → Heap → Prop} {YP : World → Heap → Prop} {d : DefRec} {K : Params → PySem.W.Frag} {CX : World → CXT} {sp : World → Sp} {x : Str}
    (hn : l.most = some n) (hn2 : n ≤ sizeLine) (hdf : d.params.defaults = []) (hr : Room k callerA)
    (hY : ∀ (w : World) (h : Heap), YP w h → (K w.params).In h)
    (F : ∀ (w : World) (mg : Str → Option Value) (fa : Addr) (h : Heap), (K w.params).In h → h.Ns mainGlobals mg → mg d.name = some (.ref fa) → XP mg h →
      ∃ fd : FuncData, (∀ (s : Shared) (u : Value), BindsTo s fd ⟨[u], []⟩ [(x, u)]) ∧
        ∀ base : Heap, (K w.params).In base → base.Ns mainGlobals mg → FnG l.prog w (K w.params) mg base (CX w) k fa fd [x] (sp w))
    (hsp : ∀ (w : World) (H : Hp) (a : Addr) (ns : List Int), ns.length ≤ n → Only H → SqL (K w.params) H a (ns.map V.int) → sp w [.ref a] H (fun v _ => v = .bl true) fun _ _ _ => False)
    (hCX : ∀ (w : World) (H : Hp) (s : Shared) (e : Value) (s' : Shared), CX w [] H s (fun _ _ _ => False) e s' → False) :
    PySem.W.WalkO q loose XP YP l.row.toRowW d [] (fun f vs => PySem.call f vs) :=
  Att.attach_call hn hdf fun w _ s₁ mg mb fa _ _ _ _ a vs ns G Y _ _ _ hmg hobj hints hlen hg =>
    let ⟨_, hb, hF⟩ := F w mg fa _ (hY w _ Y) G.T.g hmg G.X
    law_callG (hY w _ Y) G.T.g G.T.b G.T.builtins G.T.nolimit hg hobj hints (Nat.le_trans hlen hn2) hr hF hb (fun H hO hS => hsp w H a ns hlen hO hS) fun H e s' => hCX w H s₁ e s'
/-- a number that the top keeps under a name, whatever its token -/
theorem loose_int {p : Program} {lv : List (Str × PySem.W.WData)} {mg : Str → Option Value} {h : Heap} {x : Str} {i : Int} (X : PySem.W.XL p lv mg h) (hm : (x, PySem.W.WData.int i) ∈ lv) : ∃ u, mg x = some u ∧ L2.RelV (.int i) u := by
  obtain ⟨v, e, r⟩ := X.2.val _ hm
  cases r
  exact ⟨_, e, _, rfl⟩
end Jg
namespace Jg
open PySem PySem.Spec PyProof.Rows L2
/-- a def of the module as the top leaves it -/
structure DefK (K : PySem.W.Frag) (mg : Str → Option Value) (x : Str) (st : Stmt) : Prop where
  ex : ∃ f fd, Fun K x x st f fd ∧ mg x = some (.ref f)
theorem DefK.of {K : PySem.W.Frag} {h : Heap} {mg : Str → Option Value} {x : Str} {st : Stmt} {f : Addr} {oc : Value} {od an : Option Addr} {osl : Array (Option Value)} {kV doc pm cdv ct : Value} (X : K.In h) (G : h.Ns mainGlobals mg)
    (a : PySem.W.nsIn K mainGlobals x = some (some (.ref f))) (l : K.lookup f = some ⟨oc, od, .func (PySem.W.fnOf x x (defArgs st) (defBody st) (defScope st) .none kV doc pm an cdv ct), osl⟩)
    (c : PySem.W.codeIn K cdv x = true) (k : PySem.W.keepIn K (.ref f) = true) : DefK K mg x st := ⟨f, _, fun_mk l c k, PySem.W.mg_of X G a⟩
/-- a method of the class at C -/
structure MetK (K : PySem.W.Frag) (C : Addr) (m qual : Str) (st : Stmt) : Prop where
  ex : ∃ f fd, Fun K m qual st f fd ∧ PySem.W.findIn K (.ref C) m = some (some (.ref f)) ∧ PySem.W.isFn K (.ref f) = true
theorem MetK.of {K : PySem.W.Frag} {C : Addr} {m qual : Str} {st : Stmt} {f : Addr} {oc : Value} {od an : Option Addr} {osl : Array (Option Value)} {kV doc pm cdv ct : Value}
    (a : PySem.W.findIn K (.ref C) m = some (some (.ref f))) (i : PySem.W.isFn K (.ref f) = true) (l : K.lookup f = some ⟨oc, od, .func (PySem.W.fnOf m qual (defArgs st) (defBody st) (defScope st) .none kV doc pm an cdv ct), osl⟩)
    (c : PySem.W.codeIn K cdv qual = true) (k : PySem.W.keepIn K (.ref f) = true) : MetK K C m qual st := ⟨f, _, fun_mk l c k, a, i⟩
/-- a property of the class at C -/
structure PrpK (K : PySem.W.Frag) (C : Addr) (m qual : Str) (st : Stmt) : Prop where
  ex : ∃ p f fd, Fun K m qual st f fd ∧ PropOf K C m p f
theorem PrpK.of {K : PySem.W.Frag} {C : Addr} {m qual : Str} {st : Stmt} {p f : Addr} {rest : List Value} {oc : Value} {od an : Option Addr} {osl : Array (Option Value)} {kV doc pm cdv ct : Value}
    (a : PySem.W.findIn K (.ref C) m = some (some (.ref p))) (g : PySem.W.specialIn K (.ref p) "__get__" = some (some (.builtin "property.__get__"))) (tk : PySem.W.takesIn K (.ref p) = some true) (rc : PySem.W.recIn K p "property" = some (.ref f :: rest))
    (l : K.lookup f = some ⟨oc, od, .func (PySem.W.fnOf m qual (defArgs st) (defBody st) (defScope st) .none kV doc pm an cdv ct), osl⟩)
    (c : PySem.W.codeIn K cdv qual = true) (k : PySem.W.keepIn K (.ref f) = true) : PrpK K C m qual st := ⟨p, f, _, fun_mk l c k, ⟨a, g, tk, rest, rc⟩⟩
/-- a classmethod of the class at C -/
structure CmtK (K : PySem.W.Frag) (C : Addr) (mc : Value) (m qual : Str) (st : Stmt) : Prop where
  ex : ∃ p f fd, Fun K m qual st f fd ∧ ClX.CRead K C mc ∧ ClX.CMet K C mc m p f
theorem CmtK.of {K : PySem.W.Frag} {C : Addr} {mc : Value} {m qual : Str} {st : Stmt} {p f : Addr} {rest : List Value} {oc : Value} {od an : Option Addr} {osl : Array (Option Value)} {kV doc pm cdv ct : Value}
    (rd : PySem.W.readsIn K C mc = true) (ga : PySem.W.specialIn K (.ref C) "__getattribute__" = some (some (.builtin "type.__getattribute__")))
    (a : PySem.W.findCls K (.ref C) mc m = some (.get (.builtin "classmethod.__get__") (.ref p) .none (.ref C))) (rc : PySem.W.recIn K p "classmethod" = some (.ref f :: rest)) (fi : PySem.W.fnIn K f = true)
    (l : K.lookup f = some ⟨oc, od, .func (PySem.W.fnOf m qual (defArgs st) (defBody st) (defScope st) .none kV doc pm an cdv ct), osl⟩)
    (c : PySem.W.codeIn K cdv qual = true) (k : PySem.W.keepIn K (.ref f) = true) : CmtK K C mc m qual st := ⟨p, f, _, fun_mk l c k, ⟨rd, ga⟩, ⟨a, ⟨rest, rc⟩, fi⟩⟩
section
variable (P : Program) (w : World) (K : PySem.W.Frag) (mg : Str → Option Value) (base : Heap) (CX : CXT) (k : Nat)
/-- a def that may be called by its name -/
structure Cal (x : Str) (sp : Sp) : Prop where
  ex : ∃ f fd ps, FnOk P w K mg base CX k f fd ps sp ∧ mg x = some (.ref f) ∧ PySem.W.keepIn K (.ref f) = true ∧ Binds K fd ps []
structure CalG (x : Str) (sp : Sp) : Prop where
  ex : ∃ f fd ps, FnG P w K mg base CX k f fd ps sp ∧ mg x = some (.ref f) ∧ PySem.W.keepIn K (.ref f) = true ∧ Binds K fd ps []
end
theorem CalG.of {P : Program} {w : World} {K : PySem.W.Frag} {mg : Str → Option Value} {base : Heap} {CX : CXT} {k : Nat} {x : Str} {sp : Sp} (c : Cal P w K mg base CX k x sp) : CalG P w K mg base CX k x sp :=
  let ⟨f, fd, ps, F, a⟩ := c.ex
  ⟨f, fd, ps, .of F, a⟩
end Jg
namespace Jg
open PySem PySem.Spec PyProof.Rows L2
/-- what two values are said to be: the same or not -/
abbrev Dqv := V → V → Hp → Bool → Prop
def EqB (X : Cx) (n : Nat) (D : Dqv) : Prop := ∀ (A : Around) (pins : List (Addr × Obj)) (s : Shared) (σ : L2.St) (H : Hp) (x y : V) (u v : Value) (b : Bool), Sub X n A → Inv X pins σ H s → RelV x u → RelV y v → D x y H b →
  wpAny (model X.prog X.w) A (eqBool u v) (fun r s' => r = b ∧ ∃ H', Inv X pins σ H' s' ∧ Ext H H') X.xe s
def RcB (X : Cx) (n : Nat) (D : Dqv) : Prop := ∀ (A : Around) (pins : List (Addr × Obj)) (s : Shared) (σ : L2.St) (H : Hp) (x y : V) (u v : Value) (b : Bool), Sub X n A → Inv X pins σ H s → RelV x u → RelV y v → D x y H b →
  wpAny (model X.prog X.w) A (richCompare .Eq u v) (fun r s' => r = .bool b ∧ ∃ H', Inv X pins σ H' s' ∧ Ext H H') X.xe s
section
variable {X : Cx} {n m : Nat} {D D' : Dqv}
theorem EqB.mono (h : EqB X n D) (le : n ≤ m) : EqB X m D := fun A pins s σ H x y u v b sb => h A pins s σ H x y u v b (sb.mono le)
end
end Jg
namespace Jg
open PySem PySem.Spec PyProof.Rows L2
section
variable {X : Cx} {n k j : Nat} {D : Dqv} {C : Addr} {R : Addr → Addr → Hp → Bool → Prop} {sp : Sp}
theorem RcB.imp (h : RcB X n D) {D' : Dqv} (i : ∀ x y H b, D' x y H b → D x y H b) : RcB X n D' := fun A pins s σ H x y u v b sb I rx ry d => h A pins s σ H x y u v b sb I rx ry (i x y H b d)
end
end Jg
namespace Jg
open PySem PySem.Spec PyProof.Rows L2
end Jg
namespace Jg
open PySem PySem.Spec PyProof.Rows L2
end Jg
namespace Jg
open PySem PySem.Spec PyProof.Rows L2
end Jg
namespace Jg
open PySem PySem.Spec PyProof.Rows L2
/-- an exception a of the class cls, its dict d, lies caught in the frame of X -/
def Caught (X : Cx) (pins : List (Addr × Obj)) (σ : L2.St) (H : Hp) (a : Addr) (cls : Value) (d : Option Addr) (s : Shared) : Prop :=
  ∃ (B : Heap) (s0 : Shared), Inv X pins σ H s0 ∧ (∀ b o, s0.heap.get? b = some o → b ∉ frs X.stack → B.get? b = some o) ∧ s0.heap.UpToSlots s.heap ∧
    HandSPX.FlyingZ B (X.env :: X.outer) a (Zc cls d) s.heap ∧ s.os = s0.os ∧ AllBare s.gens ∧ H a = none
section
variable {X : Cx} {pins : List (Addr × Obj)} {σ : L2.St} {H : Hp} {a : Addr} {cls : Value} {d : Option Addr} {s : Shared}
theorem Caught.inv (c : Caught X pins σ H a cls d s) : Inv X pins σ H s :=
  let ⟨_, _, J, keep, up, fly, os, bare, _⟩ := c
  J.landed keep fly.1 up os bare
theorem Caught.hole (c : Caught X pins σ H a cls d s) : H a = none :=
  let ⟨_, _, _, _, _, _, _, _, z⟩ := c
  z
/-- the place of the exception, and what stands there -/
theorem Caught.place (c : Caught X pins σ H a cls d s) (fr : X.env.frame = some X.env.locals) :
    ∃ oe vs, s.heap.get? a = some oe ∧ Zc cls d oe ∧ oe.data = .fields vs ∧ a ≠ X.env.locals ∧ a ∉ X.fs := by
  obtain ⟨B, s0, J, keep, up, fly, os, bare, z⟩ := c
  obtain ⟨oe, vs, at_, zc, dt⟩ := fly.there
  have out : a ∉ frs (X.env :: X.outer) := fun m => by
    obtain ⟨_, o, at2, no⟩ := fly.2.2.1.mem m
    cases at_.symm.trans at2
    exact no vs dt
  refine ⟨oe, vs, at_, zc, dt, fun e => out ?_, fun m => out ?_⟩
  · rw [e]
    exact List.mem_filterMap.mpr ⟨_, List.mem_cons_self, fr⟩
  · obtain ⟨e, me, fe⟩ := List.mem_filterMap.mp m
    exact List.mem_filterMap.mpr ⟨e, List.mem_cons_of_mem _ me, fe⟩
theorem Caught.again {M : Model} {A : Around} {E : Value → Shared → Prop} {Q : Unit → Shared → Prop} (c : Caught X pins σ H a cls d s) (q : ∀ s', Caught X pins σ H a cls d s' → Q () s') :
    wpAny M A (setFlight (.ref a) .none) Q E s := by
  obtain ⟨B, s0, J, keep, up, fly, os, bare, z⟩ := c
  exact HandSPX.lands_againZ fly fun h' fly' up' => q _ ⟨B, s0, J, keep, up.trans up', fly', os, bare, z⟩
/-- no clause took it: it goes on -/
theorem Caught.goes {W : WX} {Q : Flow → Shared → Prop} {pos : String} (ok : X.Ok) (hs : X.stack = X.env :: X.outer) (fr : X.env.frame = some X.env.locals) (c : Caught X pins σ H a cls d s) (tk : Takes X W) (w : W cls d σ H) :
    wpAny (model X.prog X.w) X.A (passOn pos (.ref a) X.env) Q X.xe s := by
  obtain ⟨B, s0, J, keep, up, fly, os, bare, z⟩ := c
  obtain ⟨_, _, _, oe, vs, T, oT, ts, at_, _, dt, one, _⟩ := id fly
  have last : wpAny (model X.prog X.w) X.A (setFlight (.ref a) X.env.frame) (fun _ s4 => wpAny (model X.prog X.w) X.A (throw (.ref a) : Sem Flow) Q X.xe s4) X.xe s := by
    rw [fr]
    refine HandSPX.setFlight_upZ fly fun h4 held up4 => wpAny_throw (tk _ _ ⟨a, B, s0, pins, σ, H, cls, d, rfl, J, keep, up.trans up4, .inr (.inr ?_), z, os, bare, w⟩)
    rw [hs]
    exact held
  unfold PySem.passOn
  refine wpAny_bind (wpAny_field at_ dt one ?_)
  rw [if_neg (by simp : ¬ ((Value.ref T == Value.none) = true))]
  first
    | exact wpAny_bind (wpAny_pure (wpAny_bind last))
    | exact wpAny_bind last
end
/-- the slot i is free behind what the ends say -/
def gone (i : Nat) (D : Ends) : Ends := { nx := fun σ H => D.nx (σ.set i .none) H, rt := D.rt, bk := fun σ H => D.bk (σ.set i .none) H, ct := fun σ H => D.ct (σ.set i .none) H }
/-- what a row of clauses wishes of the exception -/
inductive Hds (X : Cx) (Wout : WX) : List ExceptHandler → (Ends → WX) → Prop
  | out : Hds X Wout [] fun _ => Wout
  | cut {l : List ExceptHandler} : Hds X Wout l fun _ _ _ _ _ => False
  | named {x n : Str} {c : Value} {i : Nat} {ts : Addr → Value → Option Addr → TS} {b : Stmt} {suite : List Stmt} {np p : Pos} {l : List ExceptHandler} {w : Ends → WX} (hi : X.N[i]? = some n) (hl : X.env.kindOf n = some .local) (hc : Names X x c)
      (body : ∀ (a : Addr) (oe : Obj) (cls : Value) (d : Option Addr) (pn : List (Addr × Obj)), Zc cls d oe → (∃ vs, oe.data = .fields vs) → PSs (X.suite a ((a, oe) :: pn)) (b :: suite) (ts a cls d)) (r : Hds X Wout l w) :
      Hds X Wout (.ExceptHandler (some (.Name x np)) (some n) (b :: suite) p :: l) fun D cls d σ H =>
        ∃ k, PySem.W.exmOne X.K cls c = some k ∧ (k = true → ∀ a, H a = .none → ts a cls d (gone i D) (σ.set i (some (.ref a))) H) ∧ (k = false → w D cls d σ H)
  | plain {x : Str} {c : Value} {ts : Addr → Value → Option Addr → TS} {b : Stmt} {suite : List Stmt} {np p : Pos} {l : List ExceptHandler} {w : Ends → WX} (hc : Names X x c)
      (body : ∀ (a : Addr) (oe : Obj) (cls : Value) (d : Option Addr) (pn : List (Addr × Obj)), Zc cls d oe → (∃ vs, oe.data = .fields vs) → PSs (X.suite a ((a, oe) :: pn)) (b :: suite) (ts a cls d)) (r : Hds X Wout l w) :
      Hds X Wout (.ExceptHandler (some (.Name x np)) none (b :: suite) p :: l) fun D cls d σ H =>
        ∃ k, PySem.W.exmOne X.K cls c = some k ∧ (k = true → ∀ a, H a = .none → ts a cls d D σ H) ∧ (k = false → w D cls d σ H)
section
variable {X : Cx} {Wout : WX}
/-- the test of a clause -/
theorem Caught.test {pins : List (Addr × Obj)} {σ : L2.St} {H : Hp} {a : Addr} {cls c : Value} {d : Option Addr} {s : Shared} {x : Str} {k : Bool} {np p : Pos} {R : Result → Shared → Prop} (t : Caught X pins σ H a cls d s) (fr : X.env.frame = some X.env.locals)
    (hc : Names X x c) (e : PySem.W.exmOne X.K cls c = some k) (q : R (.ok (if k then .brk else .next)) s) :
    codeAny (model X.prog X.w) (X.A.mark (some (.ref a))) (.handlers (.ref a) [.ExceptHandler (some (.Name x np)) none [] p] X.env) R s := by
  obtain ⟨oe, vs, at_, zc, dt, nl, nf⟩ := t.place fr
  have J := t.inv.suite at_ dt t.hole nl nf
  have ty : PySem.W.Looks (model X.prog X.w) s.heap (typeOf (.ref a)) cls := fun A Q E s' keep z => wpAny_typeOf_ref (keep _ _ at_) (by rw [zc.1]; exact z)
  have hit := PySem.W.exm_one (M := model X.prog X.w) t.inv.kIn ty e
  refine codeAny_handlers_test ?_
  obtain ⟨hg, nd, m | ⟨m, v, nn⟩⟩ := hc
  · exact ld_glob J hg m (hit.here q) nd
  · exact ld_blt J hg m v (hit.here q) nn nd
theorem Hds.run {hds : List ExceptHandler} {w : Ends → WX} (hd : Hds X Wout hds w) (hs : X.stack = X.env :: X.outer) (fr : X.env.frame = some X.env.locals) (hN : X.N.Nodup) (tk : Takes X Wout)
    {pins : List (Addr × Obj)} {σ : L2.St} {H : Hp} {a : Addr} {cls : Value} {d : Option Addr} {s : Shared} {D : Ends} (t : Caught X pins σ H a cls d s) (h : w D cls d σ H) :
    wpAny (model X.prog X.w) X.A (handleBy (.ref a) X.env hds) (SP X pins D) X.xe s := by
  have ok := t.inv.ok
  induction hd with
  | out => exact wpAny_handleBy_nil (t.goes ok hs fr tk h)
  | cut => exact h.elim
  | @named x n c i ts b suite np p l w hi hl hc body r ih =>
    obtain ⟨k, e, yes, no⟩ := h
    refine wpAny_handleBy_cons ?_ (fun z => nomatch z)
    refine t.test fr hc e ?_
    cases k with
    | false => exact ih (no rfl)
    | true =>
      refine codeAny_handlers_suite_as (t.again fun s2 t2 => ?_)
      obtain ⟨oe, vs, at_, zc, dt, nl, nf⟩ := t2.place fr
      have J := t2.inv.suite at_ dt t2.hole nl nf
      refine store_ok (X := X.suite a ((a, oe) :: (X.pn ++ pins))) (v := .ref a) J hN hi (.inl hl) rfl (fun s3 J3 => ?_) (.inr hl)
      refine wpAny_mono ((body a oe cls d _ zc ⟨vs, dt⟩).run [] s3 _ H _ J3 (yes rfl a t2.hole)) (fun f s4 z => ?_) fun _ _ z => z.elim
      have off : ∀ {σ4 : L2.St} {H4 : Hp} {Q : Shared → Prop}, Inv (X.suite a ((a, oe) :: (X.pn ++ pins))) [] σ4 H4 s4 → (∀ s5, Inv X pins (σ4.set i .none) H4 s5 → Q s5) →
          wpAny (model X.prog X.w) X.A (do bindName X.env n .none; unbindBehindTheSuite X.env n p) (fun _ s5 => Q s5) X.xe s4 := fun J4 q => gone_ok (J4.unsuite ok) hN hi hl q
      match f, z with
      | .next, ⟨_, _, J4, q⟩ => exact off J4 fun s5 J5 => ⟨_, _, J5, q⟩
      | .brk, ⟨_, _, J4, q⟩ => exact off J4 fun s5 J5 => ⟨_, _, J5, q⟩
      | .cont, ⟨_, _, J4, q⟩ => exact off J4 fun s5 J5 => ⟨_, _, J5, q⟩
      | .ret u, ⟨_, _, _, J4, rv, q⟩ => exact off J4 fun s5 J5 => ⟨_, _, _, J5, rv, q⟩
  | @plain x c ts b suite np p l w hc body r ih =>
    obtain ⟨k, e, yes, no⟩ := h
    refine wpAny_handleBy_cons ?_ (fun z => nomatch z)
    refine t.test fr hc e ?_
    cases k with
    | false => exact ih (no rfl)
    | true =>
      refine codeAny_handlers_suite (t.again fun s2 t2 => ?_)
      obtain ⟨oe, vs, at_, zc, dt, nl, nf⟩ := t2.place fr
      have J := t2.inv.suite at_ dt t2.hole nl nf
      refine wpAny_mono ((body a oe cls d _ zc ⟨vs, dt⟩).run [] s2 _ H _ J (yes rfl a t2.hole)) (fun f s4 z => ?_) fun _ _ z => z.elim
      match f, z with
      | .next, ⟨_, _, J4, q⟩ => exact ⟨_, _, J4.unsuite ok, q⟩
      | .brk, ⟨_, _, J4, q⟩ => exact ⟨_, _, J4.unsuite ok, q⟩
      | .cont, ⟨_, _, J4, q⟩ => exact ⟨_, _, J4.unsuite ok, q⟩
      | .ret u, ⟨_, _, _, J4, rv, q⟩ => exact ⟨_, _, _, J4.unsuite ok, rv, q⟩
end
/-- what the class of a caught exception must say, for its fields and for isinstance -/
structure ExcK (K : PySem.W.Frag) (C : Addr) : Prop where
  xf : XfC K C
  ha : PySem.W.findIn K (.ref C) "__class__" = some (some (.builtin "object.__class__"))
  hn : PySem.W.specialIn K (.builtin "object.__class__") "__get__" = some (some (.builtin "getset_descriptor.__get__"))
  ht : PySem.W.takesIn K (.builtin "object.__class__") = some true
  hm : PySem.W.mroIn K C (.type "object") = some true
end Jg
namespace Jg
open PySem PySem.Spec PyProof.Rows L2
/-- v is shown as x -/
inductive Shw (K : PySem.W.Frag) (H : Hp) : V → Str → Prop
  | non : Shw K H .non "None"
  | bl (b : Bool) : Shw K H (.bl b) (if b then "True" else "False")
  | int (i : Int) (h : i.natAbs.log2 < 1920) : Shw K H (.int i) (toString i)
  | str (x : Str) (h : (reprText x).length ≤ sizeLine) : Shw K H (.str x) (reprText x)
  | dat {a : Addr} {d : PyData} (h : Dp K H (.ref a) d) (s : d.showable = true) (dp : d.depth ≤ 40) (z : d.shown.length ≤ sizeLine) : Shw K H (.ref a) d.shown
  | dnew {a : Addr} (h : H a = some (.dK [])) : Shw K H (.ref a) (PyData.dict []).shown
theorem Shw.keep {K : PySem.W.Frag} {H H' : Hp} {v : V} {x : Str} (s : Shw K H v x) (k : ∀ d, Dp K H v d → Dp K H' v d) (k2 : ∀ a, H a = some (.dK []) → H' a = some (.dK [])) : Shw K H' v x := by
  cases s with
  | non => exact .non
  | bl b => exact .bl b
  | int i h => exact .int i h
  | str x h => exact .str x h
  | dat h s dp z => exact .dat (k _ h) s dp z
  | dnew h => exact .dnew (k2 _ h)
end Jg
namespace Jg
open PySem PySem.Spec PyProof.Rows L2
end Jg
namespace Jg
open PySem PySem.Spec PyProof.Rows L2
/-- the class at C stands over the built-in exception B -/
structure OvB (K : PySem.W.Frag) (C : Addr) (B nid iid : String) (line : List Value) : Prop where
  fB : ExcBaseFacts B nid iid line
  sB : StoreFacts B line "object.__setattr__" "object"
  ini : PySem.W.excInitIn K C line nid = true
  ovr : PySem.W.excOver K C line = true
  hd : PySem.W.hasDictIn K C = true
  sa : PySem.W.findIn K (.ref C) "__setattr__" = some (some (.builtin "object.__setattr__"))
  exC : PySem.W.subIn K (.ref C) (.type "BaseException") = some true
  tyC : PySem.W.typeIn K (.ref C) = some (.type "type")
  kC : PySem.W.keepIn K (.ref C) = true
def Ovr (K : PySem.W.Frag) (C : Addr) : Prop := ∃ B nid iid line, OvB K C B nid iid line
/-- __init__ with keyword-only parameters, as the top leaves it -/
structure IniK (K : PySem.W.Frag) (C : Addr) (qual : Str) (st : Stmt) (kws : List (Str × V)) : Prop where
  ex : ∃ f fd, FunD K "__init__" qual (defArgs st) (defBody st) (defScope st) [] kws f fd ∧ PySem.W.findIn K (.ref C) "__init__" = some (some (.ref f)) ∧ PySem.W.isFn K (.ref f) = true
theorem IniK.of {K : PySem.W.Frag} {C : Addr} {qual : Str} {st : Stmt} {f : Addr} {oc : Value} {od an : Option Addr} {osl : Array (Option Value)} {kV doc pm cdv ct : Value} {kws : List (Str × V)}
    (a : PySem.W.findIn K (.ref C) "__init__" = some (some (.ref f))) (i : PySem.W.isFn K (.ref f) = true) (l : K.lookup f = some ⟨oc, od, .func (PySem.W.fnOf "__init__" qual (defArgs st) (defBody st) (defScope st) .none kV doc pm an cdv ct), osl⟩)
    (c : PySem.W.codeIn K cdv qual = true) (k : PySem.W.keepIn K (.ref f) = true) (kw : KwdV K kV kws) : IniK K C qual st kws := ⟨f, _, ⟨⟨oc, od, .none, kV, doc, pm, an, cdv, ct, osl, rfl, l, c, .inl ⟨rfl, rfl⟩, kw⟩, k⟩, a, i⟩
end Jg
namespace Jg
open PySem PySem.Spec PyProof.Rows L2 PySem.W
end Jg
namespace Jg
open PySem PySem.Spec PyProof.Rows L2 PySem.W
end Jg
namespace Jg
open PySem PySem.Spec PyProof.Rows L2
end Jg
namespace Jg
open PySem PySem.Spec PyProof.Rows L2
/-- each text once -/
def addW (l : List Str) (z : Str) : List Str := if z ∈ l then l else z :: l
def onceW (ks : List Str) : List Str := ks.foldl addW []
end Jg
namespace Jg
open PySem PySem.Spec PyProof.Rows L2
end Jg
namespace Jg
open PySem PySem.Spec PyProof.Rows L2
end Jg
namespace Jg
open PySem PySem.Spec PyProof.Rows L2
/-- xs stands at a, as a list (true) or as a tuple -/
def SqE (K : PySem.W.Frag) (b : Bool) (H : Hp) (a : Addr) (xs : List V) : Prop := if b = true then SqL K H a xs else SqT K H a xs
end Jg
namespace Jg
open PySem PySem.Spec PyProof.Rows
end Jg
namespace Jg
open PySem PySem.Spec PyProof.Rows L2
end Jg
namespace Jg
open PySem PySem.Spec PyProof.Rows L2
def okW (z : Str) : Prop := PyData.strOk z = true
end Jg
namespace Jg
open PySem PySem.Spec PyProof.Rows L2
end Jg
namespace Jg
open PySem PySem.Spec PyProof.Rows L2
end Jg
namespace Jg
open PySem PySem.Spec PyProof.Rows L2
end Jg
namespace Jg
open PySem PySem.Spec PyProof.Rows L2
end Jg
namespace Jg
open PySem PySem.Spec PyProof.Rows L2
end Jg
namespace Jg
open PySem PySem.Spec PyProof.Rows L2
/-- d weighs at most n and is at most k deep -/
structure Sb (d : PyData) (n k : Nat) : Prop where
  sh : d.showable = true
  lv : d.leavesShort 100 = true
  bk : d.bulk ≤ n
  dp : d.depth ≤ k
structure SbAll (ds : List PyData) (n k : Nat) : Prop where
  sh : PyData.showableAll ds = true
  lv : PyData.leavesShortAll 100 ds = true
  bk : PyData.bulkAll ds ≤ n
  dp : PyData.depthAll ds ≤ k
theorem Sb.str {z : Str} {n : Nat} (h : z.length ≤ n) (c : ∀ x ∈ z.cps.toList, x < 16 ^ 8) : Sb (.str z) n 0 :=
  ⟨by simp [PyData.showable], by simpa only [PyData.leavesShort, List.all_eq_true, decide_eq_true_eq] using c, h, by simp [PyData.depth]⟩
theorem Sb.int {i : Int} (h : i.natAbs < 10 ^ 9) : Sb (.int i) 0 0 := by
  have z := int_text_length_le10 (k := 9) (by decide) h
  have e : (PyData.int i).shown.length ≤ 100 := by
    show (Str.ofString (toString i)).length ≤ 100
    rw [PySem.ofString_length]
    omega
  refine ⟨?_, by simpa only [PyData.leavesShort, decide_eq_true_eq] using e, Nat.le_refl _, by simp [PyData.depth]⟩
  have l : i.natAbs.log2 < 1920 := Nat.lt_of_lt_of_le (PySem.Flt.log2_lt_of (k := 64) (by decide) (Nat.lt_of_lt_of_le h (by decide +kernel))) (by decide)
  simp [PyData.showable, l]
theorem Sb.non : Sb .none 0 0 := ⟨rfl, rfl, Nat.le_refl _, by simp [PyData.depth]⟩
theorem Sb.bl (b : Bool) : Sb (.bool b) 0 0 := ⟨rfl, rfl, Nat.le_refl _, by simp [PyData.depth]⟩
theorem Sb.mono {d : PyData} {n m k l : Nat} (h : Sb d n k) (h1 : n ≤ m) (h2 : k ≤ l) : Sb d m l := ⟨h.sh, h.lv, Nat.le_trans h.bk h1, Nat.le_trans h.dp h2⟩
theorem SbAll.mono {ds : List PyData} {n m k l : Nat} (h : SbAll ds n k) (h1 : n ≤ m) (h2 : k ≤ l) : SbAll ds m l := ⟨h.sh, h.lv, Nat.le_trans h.bk h1, Nat.le_trans h.dp h2⟩
theorem SbAll.nil {n k : Nat} : SbAll [] n k := ⟨rfl, rfl, Nat.zero_le _, Nat.zero_le _⟩
theorem SbAll.cons {d : PyData} {ds : List PyData} {n m k : Nat} (h1 : Sb d n k) (h2 : SbAll ds m k) : SbAll (d :: ds) (n + 1 + m) k :=
  ⟨by simp only [PyData.showableAll, h1.sh, h2.sh, Bool.and_true], by simp only [PyData.leavesShortAll, h1.lv, h2.lv, Bool.and_true], by
    have a := h1.bk
    have b := h2.bk
    simp only [PyData.bulkAll]; omega, by
    have a := h1.dp
    have b := h2.dp
    simp only [PyData.depthAll]; omega⟩
theorem SbAll.of {n k : Nat} : ∀ {ds : List PyData}, (∀ d ∈ ds, Sb d n k) → SbAll ds (ds.length * (n + 1)) k
  | [], _ => .nil
  | d :: ds, h => (SbAll.cons (h d (List.mem_cons_self ..)) (SbAll.of fun x hx => h x (List.mem_cons_of_mem _ hx))).mono (by rw [List.length_cons, Nat.add_mul]; omega) (Nat.le_refl _)
theorem SbAll.list {ds : List PyData} {n k : Nat} (h : SbAll ds n k) : Sb (.list ds) n (k + 1) :=
  ⟨by simp only [PyData.showable, h.sh], by simp only [PyData.leavesShort, h.lv], h.bk, by
    have a := h.dp
    simp only [PyData.depth]; omega⟩
theorem SbAll.tuple {ds : List PyData} {n k : Nat} (h : SbAll ds n k) : Sb (.tuple ds) n (k + 1) :=
  ⟨by simp only [PyData.showable, h.sh], by simp only [PyData.leavesShort, h.lv], h.bk, by
    have a := h.dp
    simp only [PyData.depth]; omega⟩
theorem sb_kv {n m k : Nat} : ∀ {kvs : List (PyData × PyData)}, (∀ p ∈ kvs, Sb p.1 n k ∧ Sb p.2 m k) → PyData.showableKv kvs = true ∧ PyData.leavesShortKv 100 kvs = true ∧ PyData.bulkKv kvs ≤ kvs.length * (n + m + 2) ∧ PyData.depthKv kvs ≤ k
  | [], _ => ⟨rfl, rfl, Nat.zero_le _, Nat.zero_le _⟩
  | (a, b) :: r, h => by
    obtain ⟨i1, i2, i3, i4⟩ := sb_kv (kvs := r) fun p hp => h p (List.mem_cons_of_mem _ hp)
    obtain ⟨h1, h2⟩ : Sb a n k ∧ Sb b m k := h (a, b) (List.mem_cons_self ..)
    refine ⟨by simp only [PyData.showableKv, h1.sh, h2.sh, i1, Bool.and_true], by simp only [PyData.leavesShortKv, h1.lv, h2.lv, i2, Bool.and_true], ?_, ?_⟩
    · have x := h1.bk
      have y := h2.bk
      simp only [PyData.bulkKv]
      rw [List.length_cons, Nat.add_mul]; omega
    · have x := h1.dp
      have y := h2.dp
      simp only [PyData.depthKv]; omega
theorem Sb.dict {kvs : List (PyData × PyData)} {n m k : Nat} (h : ∀ p ∈ kvs, Sb p.1 n k ∧ Sb p.2 m k) : Sb (.dict kvs) (kvs.length * (n + m + 2)) (k + 1) := by
  obtain ⟨i1, i2, i3, i4⟩ := sb_kv h
  exact ⟨by simp only [PyData.showable, i1], by simp only [PyData.leavesShort, i2], i3, by simp only [PyData.depth]; omega⟩
theorem Sb.len {d : PyData} {n k : Nat} (h : Sb d n k) (z : n ≤ 160000) : d.shown.length ≤ sizeLine := by
  have e := PyData.shown_le_bulk 100 (by decide) d h.lv
  have b := h.bk
  rw [sizeLine_eq]; omega
end Jg
namespace Jg
open PySem PySem.Spec PyProof.Rows L2
end Jg
namespace Jg
open PySem PySem.Spec PyProof.Rows L2
/-- a method with keyword-only parameters, as the top leaves it -/
structure MthK (K : PySem.W.Frag) (C : Addr) (m : Str) (qual : Str) (st : Stmt) (kws : List (Str × V)) : Prop where
  ex : ∃ f fd, FunD K m qual (defArgs st) (defBody st) (defScope st) [] kws f fd ∧ PySem.W.findIn K (.ref C) m = some (some (.ref f)) ∧ PySem.W.isFn K (.ref f) = true
theorem MthK.of {K : PySem.W.Frag} {C : Addr} {m qual : Str} {st : Stmt} {f : Addr} {oc : Value} {od an : Option Addr} {osl : Array (Option Value)} {kV doc pm cdv ct : Value} {kws : List (Str × V)}
    (a : PySem.W.findIn K (.ref C) m = some (some (.ref f))) (i : PySem.W.isFn K (.ref f) = true) (l : K.lookup f = some ⟨oc, od, .func (PySem.W.fnOf m qual (defArgs st) (defBody st) (defScope st) .none kV doc pm an cdv ct), osl⟩)
    (c : PySem.W.codeIn K cdv qual = true) (k : PySem.W.keepIn K (.ref f) = true) (kw : KwdV K kV kws) : MthK K C m qual st kws := ⟨f, _, ⟨⟨oc, od, .none, kV, doc, pm, an, cdv, ct, osl, rfl, l, c, .inl ⟨rfl, rfl⟩, kw⟩, k⟩, a, i⟩
end Jg
namespace Jg
open PySem PySem.Spec PyProof.Rows L2
def tlS (z : Str) : List Nat := z.cps.toList
theorem tlS_app (a b : Str) : tlS (a ++ b) = tlS a ++ tlS b := by unfold tlS; rw [Str.cps_append, Array.toList_append]
/-- prefix-unique: two of these shown, with something behind, are the same -/
def Cut (D : PyData → Prop) : Prop := ∀ d d' x y, D d → D d' → tlS d.shown ++ x = tlS d'.shown ++ y → d = d' ∧ x = y
theorem tl_join (ds : List PyData) : ∀ d, tlS (Str.join ", " (PyData.shownAll (d :: ds))) = tlS d.shown ++ (ds.flatMap fun e => 44 :: 32 :: tlS e.shown) := by
  induction ds with
  | nil => intro d; rw [PyData.shownAll_cons, PyData.shownAll_nil]; show tlS d.shown = _; simp
  | cons e r ih =>
    intro d
    rw [PyData.shownAll_cons, PyData.shownAll_cons]
    show tlS (d.shown ++ ", " ++ Str.join ", " (e.shown :: PyData.shownAll r)) = _
    rw [tlS_app, tlS_app, ← PyData.shownAll_cons, ih e, List.flatMap_cons]
    show tlS d.shown ++ [44, 32] ++ _ = _
    simp
theorem rest_cut {D : PyData → Prop} (c : Cut D) {b : Nat} (hb : b ≠ 44) : ∀ {ds es : List PyData} {x y : List Nat}, (∀ d ∈ ds, D d) → (∀ d ∈ es, D d) → (ds.flatMap fun e => 44 :: 32 :: tlS e.shown) ++ b :: x = (es.flatMap fun e => 44 :: 32 :: tlS e.shown) ++ b :: y → ds = es ∧ x = y
  | [], [], _, _, _, _, e => ⟨rfl, by injection e⟩
  | [], d :: es, _, _, _, _, e => by
    rw [List.flatMap_cons] at e
    injection e with e1 _
    exact absurd e1 hb
  | d :: ds, [], _, _, _, _, e => by
    rw [List.flatMap_cons] at e
    injection e with e1 _
    exact absurd e1.symm hb
  | d :: ds, d' :: es, x, y, h, h', e => by
    simp only [List.flatMap_cons, List.cons_append, List.append_assoc, List.cons.injEq, true_and] at e
    obtain ⟨a, e2⟩ := c d d' _ _ (h d List.mem_cons_self) (h' d' List.mem_cons_self) e
    obtain ⟨a2, b2⟩ := rest_cut c hb (fun q hq => h q (List.mem_cons_of_mem _ hq)) (fun q hq => h' q (List.mem_cons_of_mem _ hq)) e2
    exact ⟨by rw [a, a2], b2⟩
/-- what stands behind the head of a list: its end, or the rest -/
theorem seq_cut {D : PyData → Prop} (c : Cut D) (ne : ∀ d, D d → ∃ h t, tlS d.shown = h :: t ∧ h ≠ 93 ∧ h ≠ 41) {b : Nat} (hb : b = 93 ∨ b = 41) {ds es : List PyData} {x y : List Nat} (h : ∀ d ∈ ds, D d) (h' : ∀ d ∈ es, D d)
    (e : tlS (Str.join ", " (PyData.shownAll ds)) ++ b :: x = tlS (Str.join ", " (PyData.shownAll es)) ++ b :: y) : ds = es ∧ x = y := by
  have b44 : b ≠ 44 := by omega
  match ds, es with
  | [], [] =>
    rw [PyData.shownAll_nil] at e
    exact ⟨rfl, (List.cons.inj e).2⟩
  | [], d :: r =>
    rw [tl_join] at e
    obtain ⟨p, t, ep, n1, n2⟩ := ne d (h' d List.mem_cons_self)
    rw [ep] at e
    have z := (List.cons.inj e).1
    omega
  | d :: r, [] =>
    rw [tl_join] at e
    obtain ⟨p, t, ep, n1, n2⟩ := ne d (h d List.mem_cons_self)
    rw [ep] at e
    have z := (List.cons.inj e).1
    omega
  | d :: r, d' :: r' =>
    rw [tl_join, tl_join, List.append_assoc, List.append_assoc] at e
    obtain ⟨a, e2⟩ := c d d' _ _ (h d List.mem_cons_self) (h' d' List.mem_cons_self) e
    obtain ⟨a2, b2⟩ := rest_cut c b44 (fun q hq => h q (List.mem_cons_of_mem _ hq)) (fun q hq => h' q (List.mem_cons_of_mem _ hq)) e2
    exact ⟨by rw [a, a2], b2⟩
theorem tl_list (ds : List PyData) : tlS (PyData.list ds).shown = 91 :: (tlS (Str.join ", " (PyData.shownAll ds)) ++ [93]) := by
  rw [PyData.shown_list, tlS_app, tlS_app]
  show [91] ++ _ ++ [93] = _
  simp
/-- a list of such is such -/
theorem Cut.list {D : PyData → Prop} (c : Cut D) (ne : ∀ d, D d → ∃ h t, tlS d.shown = h :: t ∧ h ≠ 93 ∧ h ≠ 41) : Cut (fun d => ∃ ds, d = PyData.list ds ∧ ∀ x ∈ ds, D x) := by
  rintro _ _ x y ⟨ds, rfl, h⟩ ⟨es, rfl, h'⟩ e
  rw [tl_list, tl_list, List.cons_append, List.cons_append, List.append_assoc, List.append_assoc] at e
  obtain ⟨a, b⟩ := seq_cut c ne (.inl rfl) h h' (List.cons.inj e).2
  exact ⟨by rw [a], b⟩
end Jg
namespace Jg
open PySem PySem.Spec PyProof.Rows L2
end Jg
namespace K09C
open PySem PySem.Spec PyProof.Rows L2 Jg
def top (i : Nat) : Stmt := PySem.Challenge.pw_gaplesskeys_k09_plans_edited.main.body.getD i (.Pass ⟨0, 0, 0, 0⟩)
structure Txt (K : PySem.W.Frag) (mg : Str → Option Value) : Prop where
  b_isinstance : mg "isinstance" = none
  b_int : mg "int" = none
  b_bool : mg "bool" = none
  b_str : mg "str" = none
  b_list : mg "list" = none
  b_tuple : mg "tuple" = none
  b_dict : mg "dict" = none
  b_len : mg "len" = none
  b_all : mg "all" = none
  b_any : mg "any" = none
  b_set : mg "set" = none
  b_sorted : mg "sorted" = none
  b_max : mg "max" = none
  b_min : mg "min" = none
  b_range : mg "range" = none
  b_repr : mg "repr" = none
  b_sum : mg "sum" = none
  g_MOST_ROLES : ∃ u, mg "_MOST_ROLES" = some u ∧ L2.RelV (.int 3) u
  g_MOST_ACCEPTED : ∃ u, mg "_MOST_ACCEPTED" = some u ∧ L2.RelV (.int 8) u
  g_MOST_VOUCHERS : ∃ u, mg "_MOST_VOUCHERS" = some u ∧ L2.RelV (.int 4) u
  g_MOST_NEEDED : ∃ u, mg "_MOST_NEEDED" = some u ∧ L2.RelV (.int 4) u
abbrev kit (K : PySem.W.Frag) (t : Value) (n : String) (b : Bool) : Prop := PySem.W.kitOne K t (.type n) = some b
def wordB (z : Str) : Bool := decide (z.length ≤ 8) && (PySem.Txt.isascii z && (PySem.Txt.isalpha z && PySem.Txt.islower z))
def flagV (x : V) : Bool := match x with | .str z => wordB z | _ => false
def txV (x : V) : Str := match x with | .str z => z | _ => Str.empty
/-- what may stand in a list that is asked for keys -/
def ItOk (K : PySem.W.Frag) (H : Hp) (x : V) : Prop := (∃ z, x = .str z ∧ z.length ≤ sizeLine) ∨ (∃ t, (∀ H', Same H H' → TyX K H' x t) ∧ kit K t "str" false ∧ ∀ z, x ≠ .str z)
theorem ItOk.keep {K : PySem.W.Frag} {H H' : Hp} {x : V} (h : ItOk K H x) (s : Same H H') : ItOk K H' x := h.elim .inl fun ⟨t, ty, k⟩ => .inr ⟨t, fun H2 s2 => ty H2 (s.trans s2), k⟩
theorem same_tup {K : PySem.W.Frag} {H H' : Hp} {a : Addr} {xs : List V} (e : Same H H') (h : SqT K H a xs) : SqT K H' a xs := by
  rcases h with (h | ⟨o, h⟩) | h
  · exact .inl (.inl (e _ _ h))
  · exact .inl (.inr ⟨o, e _ _ h⟩)
  · exact .inr h
theorem SqE.keep {K : PySem.W.Frag} {b : Bool} {H H' : Hp} {a : Addr} {xs : List V} (h : SqE K b H a xs) (s : Same H H') : SqE K b H' a xs := by
  cases b with
  | true => exact s.seq h
  | false => exact same_tup s h
def keysB (xs : List V) (most : Int) : Bool := !decide (most < (xs.length : Int)) && (xs.all flagV && decide ((onceW (xs.map txV)).length = xs.length))
def spKeys (K : PySem.W.Frag) : Sp := fun vs H Q _ => ∃ y most, vs = [y, .int most] ∧
  ((∃ a b xs, y = .ref a ∧ SqE K b H a xs ∧ (∀ H', Same H H' → TyX K H' y (.type (if b then "list" else "tuple"))) ∧ xs.length ≤ 500 ∧ (∀ x ∈ xs, ItOk K H x) ∧ ∀ H', Same H H' → Q (.bl (keysB xs most)) H') ∨ (∃ t, (∀ H', Same H H' → TyX K H' y t) ∧ kit K t "list" false ∧ kit K t "tuple" false ∧ ∀ H', Same H H' → Q (.bl false) H'))
section
variable {P : Program} {w : World} {K : PySem.W.Frag} {mg : Str → Option Value} {base : Heap}
abbrev s_is_integer : Stmt := top 11
abbrev s_is_word : Stmt := top 16
abbrev s_in_order : Stmt := top 26
abbrev s_are_different_keys : Stmt := top 17
end
end K09C
namespace K09C
open PySem PySem.Spec PyProof.Rows L2 Jg
/-- y is asked for keys: fl is the answer, now and later -/
def KeysIs (K : PySem.W.Frag) (H : Hp) (y : V) (most : Int) (fl : Bool) : Prop := ∀ (H' : Hp) (Q : VK), Same H H' → (∀ H2, Same H' H2 → Q (.bl fl) H2) → spKeys K [y, .int most] H' Q E0
def WordIs (K : PySem.W.Frag) (H : Hp) (y : V) (fl : Bool) : Prop := (∃ z, y = .str z ∧ z.length ≤ sizeLine ∧ fl = wordB z) ∨ (fl = false ∧ ∃ t, (∀ H', Same H H' → TyX K H' y t) ∧ kit K t "str" false)
theorem WordIs.keep {K : PySem.W.Frag} {H H' : Hp} {y : V} {fl : Bool} (h : WordIs K H y fl) (s : Same H H') : WordIs K H' y fl := h.elim .inl fun ⟨e, t, ty, k⟩ => .inr ⟨e, t, fun H2 s2 => ty H2 (s.trans s2), k⟩
theorem KeysIs.keep {K : PySem.W.Frag} {H H' : Hp} {y : V} {m : Int} {fl : Bool} (h : KeysIs K H y m fl) (s : Same H H') : KeysIs K H' y m fl := fun H2 Q s2 q => h H2 Q (s.trans s2) q
def spUse (K : PySem.W.Frag) : Sp := fun vs H Q _ => ∃ y, vs = [y] ∧
  ((∃ t, TyX K H y t ∧ kit K t "tuple" false ∧ Q (.bl false) H) ∨
   (∃ tp xs, y = .ref tp ∧ H tp = some (.tup xs) ∧ xs.length ≠ 2 ∧ Q (.bl false) H) ∨
   (∃ tp a u fa fu, y = .ref tp ∧ H tp = some (.tup [a, u]) ∧ KeysIs K H a 8 fa ∧ WordIs K H u fu ∧ ∀ H', Same H H' → Q (.bl (fa && fu)) H'))
section
variable {P : Program} {w : World} {K : PySem.W.Frag} {mg : Str → Option Value} {base : Heap}
abbrev s_is_use : Stmt := top 23
end
end K09C
namespace K09C
open PySem PySem.Spec PyProof.Rows L2 Jg
/-- all stays, but what stands at d -/
def SameB (d : Addr) (H H' : Hp) : Prop := ∀ q o, H q = some o → q ≠ d → H' q = some o
/-- a role and its use -/
structure Row where
  z : Str
  t : Addr
  a : Addr
  b : Bool
  ks : List Str
  u : Str
def UseB (K : PySem.W.Frag) (d : Addr) (H : Hp) (y : V) (fl : Bool) : Prop := ∀ (H' : Hp) (Q : VK), SameB d H H' → (∀ H2, Same H' H2 → Q (.bl fl) H2) → spUse K [y] H' Q E0
/-- an entry of a dict that is asked for roles, and the answer about it -/
def EntB (K : PySem.W.Frag) (d : Addr) (H : Hp) (e : Key × V) (fl : Bool) : Prop := (∃ z, e.1 = .inr z ∧ z.length ≤ sizeLine ∧ ((wordB z = false ∧ fl = false) ∨ (wordB z = true ∧ UseB K d H e.2 fl))) ∨ (∃ i, e.1 = .inl i ∧ fl = false)
theorem EntB.keep {K : PySem.W.Frag} {d : Addr} {H H' : Hp} {e : Key × V} {fl : Bool} (h : EntB K d H e fl) (s : SameB d H H') : EntB K d H' e fl := by
  rcases h with ⟨z, a, b, c | ⟨c, u⟩⟩ | h
  · exact .inl ⟨z, a, b, .inl c⟩
  · exact .inl ⟨z, a, b, .inr ⟨c, fun H2 Q s2 q => u H2 Q (fun b o e n => s2 b o (s b o e n) n) q⟩⟩
  · exact .inr h
section
variable {P : Program} {w : World} {K : PySem.W.Frag} {mg : Str → Option Value} {base : Heap}
abbrev s_are_roles : Stmt := top 24
end
end K09C
namespace K09C
open PySem PySem.Spec PyProof.Rows L2 Jg
/-- what is asked of needed -/
def NeedIs (K : PySem.W.Frag) (H : Hp) (y : V) (fl : Bool) : Prop := (∃ i, y = .int i ∧ fl = (decide (0 ≤ i) && decide (i ≤ 4))) ∨ (fl = false ∧ ∃ t b1 b2, (∀ H', Same H H' → TyX K H' y t) ∧ kit K t "int" b1 ∧ (b1 = true → kit K t "bool" b2) ∧ (b1 && !b2) = false)
section
variable {P : Program} {w : World} {K : PySem.W.Frag} {mg : Str → Option Value} {base : Heap}
abbrev s_wrong_part : Stmt := top 25
end
end K09C
namespace K09C
open PySem PySem.Spec PyProof.Rows L2 Jg
structure ExnQ (K : PySem.W.Frag) (mg : Str → Option Value) (x : Str) (CI : Addr) (qual : Str) (st : Stmt) (f : Str) : Prop where
  mg_ : mg x = some (.ref CI)
  ovr : Ovr K CI
  xk : ExcK K CI
  no : PySem.W.findIn K (.ref CI) f = some none
  ini : ∃ fI fd, Fun K "__init__" qual st fI fd ∧ PySem.W.findIn K (.ref CI) "__init__" = some (some (.ref fI)) ∧ PySem.W.typeIn K (.ref fI) = some (.type "function")
  te : PySem.W.exmOne K (.ref CI) (.ref CI) = some true
structure KL where
  a : Addr
  b : Bool
  ks : List Str
structure KLOk (K : PySem.W.Frag) (H : Hp) (l : KL) : Prop where
  sq : SqE K l.b H l.a (l.ks.map V.str)
  ty : ∀ H', Same H H' → TyX K H' (.ref l.a) (.type (if l.b then "list" else "tuple"))
  few : l.ks.length ≤ 500
  sh : ∀ k ∈ l.ks, k.length ≤ sizeLine
theorem KLOk.keep {K : PySem.W.Frag} {H H' : Hp} {l : KL} (h : KLOk K H l) (s : Same H H') : KLOk K H' l := ⟨SqE.keep h.sq s, fun H2 s2 => h.ty H2 (s.trans s2), h.few, h.sh⟩
theorem NeedIs.keep {K : PySem.W.Frag} {H H' : Hp} {y : V} {fl : Bool} (h : NeedIs K H y fl) (s : Same H H') : NeedIs K H' y fl := h.imp id fun ⟨e, t, b1, b2, ty, r⟩ => ⟨e, t, b1, b2, fun H2 s2 => ty H2 (s.trans s2), r⟩
structure Use where
  z : Str
  t : Addr
  a : Addr
  ks : List Str
  u : Str
def dictU (us : List Use) : List (Key × V) := us.map fun r => (Sum.inr r.z, V.ref r.t)
structure UAt (S : Addr → Prop) (H : Hp) (r : Use) : Prop where
  tp : H r.t = some (.tup [.ref r.a, .str r.u])
  ls : H r.a = some (.lst (r.ks.map V.str))
  st : S r.t
  sa : S r.a
structure Ct where
  us : List Use
  vo : List Str
  ne : Int
  si : List Str
def cflds (d v : Addr) (n : Int) (s : Addr) : List (Str × V) := [("_uses", .ref d), ("_vouchers", .ref v), ("_needed", .int n), ("_signers", .ref s)]
structure CAt (S : Addr → Prop) (C : Addr) (H : Hp) (x : Addr) (c : Ct) : Prop where
  ex : ∃ dx d v s, H x = some (.ins C dx (cflds d v c.ne s)) ∧ H d = some (.dK (dictU c.us)) ∧ H v = some (.lst (c.vo.map V.str)) ∧ H s = some (.lst (c.si.map V.str)) ∧ S x ∧ S d ∧ S v ∧ S s
  uses : ∀ r ∈ c.us, UAt S H r
structure KsOk (ks : List Str) (m : Nat) : Prop where
  nd : ks.Nodup
  so : sortedS ks = true
  le : ks.length ≤ m
  w : ∀ k ∈ ks, wordB k = true
structure CtOk (c : Ct) : Prop where
  n1 : 1 ≤ c.us.length
  n3 : c.us.length ≤ 3
  nd : (c.us.map (·.z)).Nodup
  so : sortedS (c.us.map (·.z)) = true
  us : ∀ r ∈ c.us, KsOk r.ks 8 ∧ wordB r.z = true ∧ wordB r.u = true
  vo : KsOk c.vo 4
  si : KsOk c.si 4
  ne : 0 ≤ c.ne ∧ c.ne ≤ 4
theorem CAt.keep {S : Addr → Prop} {C : Addr} {H H' : Hp} {x : Addr} {c : Ct} (h : CAt S C H x c) (s : ∀ q o, H q = some o → S q → H' q = some o) : CAt S C H' x c := by
  obtain ⟨⟨dx, d, v, sg, e1, e2, e3, e4, k1, k2, k3, k4⟩, us⟩ := h
  exact ⟨⟨dx, d, v, sg, s _ _ e1 k1, s _ _ e2 k2, s _ _ e3 k3, s _ _ e4 k4, k1, k2, k3, k4⟩, fun r hr => ⟨s _ _ (us r hr).tp (us r hr).st, s _ _ (us r hr).ls (us r hr).sa, (us r hr).st, (us r hr).sa⟩⟩
theorem CAt.same {S : Addr → Prop} {C : Addr} {H H' : Hp} {x : Addr} {c : Ct} (h : CAt S C H x c) (s : Same H H') : CAt S C H' x c := h.keep fun q o e _ => s q o e
/-- the class's facts -/
structure CTx (K : PySem.W.Frag) (mg : Str → Option Value) (C : Addr) : Prop where
  cl : Cls K C
  cC : mg "Contents" = some (.ref C)
  cls_ : PySem.W.findIn K (.ref C) "__class__" = some (some (.builtin "object.__class__"))
  cgt : PySem.W.specialIn K (.builtin "object.__class__") "__get__" = some (some (.builtin "getset_descriptor.__get__"))
  ctk : PySem.W.takesIn K (.builtin "object.__class__") = some true
  mro : PySem.W.mroIn K C (.type "object") = some true
  ne : PySem.W.findIn K (.ref C) "__ne__" = some (some (.builtin "object.__ne__"))
  kCC : PySem.W.kitOne K (.ref C) (.ref C) = some true
  kN : PySem.W.kitOne K (.type "NoneType") (.ref C) = some false
  kI : PySem.W.kitOne K (.type "int") (.ref C) = some false
  kS : PySem.W.kitOne K (.type "str") (.ref C) = some false
  kL : PySem.W.kitOne K (.type "list") (.ref C) = some false
  kT : PySem.W.kitOne K (.type "tuple") (.ref C) = some false
  kD : PySem.W.kitOne K (.type "dict") (.ref C) = some false
  oCC : PySem.W.notFirst K C (.ref C) = true
  oN : PySem.W.notFirst K C (.type "NoneType") = true
  oI : PySem.W.notFirst K C (.type "int") = true
  oS : PySem.W.notFirst K C (.type "str") = true
  oL : PySem.W.notFirst K C (.type "list") = true
  oT : PySem.W.notFirst K C (.type "tuple") = true
  oD : PySem.W.notFirst K C (.type "dict") = true
  nu : NoAttr K C "_uses"
  nv : NoAttr K C "_vouchers"
  nn : NoAttr K C "_needed"
  ns : NoAttr K C "_signers"
section
variable {P : Program} {w : World} {K : PySem.W.Frag} {mg : Str → Option Value} {base : Heap} {C CI : Addr}
abbrev s_InvalidContents_init : Stmt := inClass (top 4) 0
abbrev s_Contents_init : Stmt := inClass (top 27) 0
end
end K09C
namespace K09C
open PySem PySem.Spec PyProof.Rows L2 Jg
theorem SameB.trans {p : Addr} {H H1 H2 : Hp} (a : SameB p H H1) (b : SameB p H1 H2) : SameB p H H2 := fun q o e n => b q o (a q o e n) n
theorem SameB.of {p : Addr} {H H1 : Hp} (a : Same H H1) : SameB p H H1 := fun q o e _ => a q o e
theorem SameB.out {p : Addr} {H H1 H2 : Hp} (a : Same H H1) (b : SameB p H1 H2) (n : H p = none) : Same H H2 := fun q o e => b q o (a q o e) (ne_of_none e n)
def StA (H : Hp) (p : Addr) : Prop := ∃ a b, H p = some (.lst [.int a, .int b]) ∧ 0 ≤ a
theorem StA.ne {H : Hp} {p l : Addr} (h : StA H p) (n : H l = none) : l ≠ p := fun z => by
  obtain ⟨a, b, e, _⟩ := h
  rw [z, e] at n
  cases n
def AZ (z : Str) : Prop := ∀ c ∈ z.cps.toList, 97 ≤ c ∧ c ≤ 122
theorem az_sign : ∀ c : Nat, 97 ≤ c → c ≤ 122 → (Unicode.isAlpha c && (Unicode.isLower c && (!Unicode.isUpper c && !Unicode.isTitle c))) = true := by
  intro c h1 h2
  have h : ∀ d ∈ (List.range 26).map (97 + ·), (Unicode.isAlpha d && (Unicode.isLower d && (!Unicode.isUpper d && !Unicode.isTitle d))) = true := by decide +kernel
  exact h c (List.mem_map.mpr ⟨c - 97, List.mem_range.mpr (by omega), by show 97 + (c - 97) = c; omega⟩)
theorem az_all {z : Str} {p : Nat → Bool} (h : AZ z) (hp : ∀ c, 97 ≤ c → c ≤ 122 → p c = true) : z.cps.all p = true := by
  rw [← Array.all_toList]
  exact List.all_eq_true.mpr fun c hc => hp c (h c hc).1 (h c hc).2
theorem az_word {z : Str} (h : AZ z) (h1 : 1 ≤ z.length) (h8 : z.length ≤ 8) : wordB z = true := by
  have pos : 0 < z.cps.toList.length := by
    have e : z.length = z.cps.size := rfl
    rw [Array.length_toList]; omega
  have ha : PySem.Txt.isascii z = true := az_all h fun c _ _ => decide_eq_true (by omega)
  have hb : PySem.Txt.isalpha z = true := by
    unfold PySem.Txt.isalpha
    rw [az_all h fun c h1 h2 => (Bool.and_eq_true_iff.mp (az_sign c h1 h2)).1, Bool.and_true]
    exact decide_eq_true (by omega)
  have hc : PySem.Txt.islower z = true := by
    unfold PySem.Txt.islower
    have k1 : z.cps.any Unicode.isLower = true := by
      rw [← Array.any_toList]
      have m : z.cps.toList[0] ∈ z.cps.toList := List.getElem_mem pos
      exact List.any_eq_true.mpr ⟨_, m, (Bool.and_eq_true_iff.mp (Bool.and_eq_true_iff.mp (az_sign _ (h _ m).1 (h _ m).2)).2).1⟩
    have k2 : (z.cps.any fun c => Unicode.isUpper c || Unicode.isTitle c) = false := by
      rw [← Array.any_toList, List.any_eq_false]
      intro c hc
      have z4 := (Bool.and_eq_true_iff.mp (Bool.and_eq_true_iff.mp (az_sign _ (h _ hc).1 (h _ hc).2)).2).2
      obtain ⟨u1, u2⟩ := Bool.and_eq_true_iff.mp z4
      rw [Bool.not_eq_true'] at u1 u2
      rw [u1, u2]; simp
    rw [k1, k2]; rfl
  unfold wordB
  rw [decide_eq_true h8, ha, hb, hc]; rfl
/-- a word -/
def Wd (z : Str) : Prop := AZ z ∧ 1 ≤ z.length ∧ z.length ≤ 7
theorem Wd.ok {z : Str} (h : Wd z) : z.length ≤ sizeLine ∧ wordB z = true := ⟨by rw [sizeLine_eq]; have := h.2.2; omega, az_word h.1 h.2.1 (Nat.le_succ_of_le h.2.2)⟩
section
variable {P : Program} {w : World} {K : PySem.W.Frag} {mg : Str → Option Value} {base : Heap}
abbrev s_law_stream : Stmt := top 34
abbrev s_law_draw : Stmt := top 35
abbrev s_law_choose : Stmt := top 36
abbrev s_law_words : Stmt := top 38
end
end K09C
namespace K09C
open PySem PySem.Spec PyProof.Rows L2 Jg
/-- no role of these contents -/
def NoRole (K : PySem.W.Frag) (H : Hp) (c : Ct) (y : V) : Prop := (∃ z, y = .str z ∧ z.length ≤ sizeLine ∧ z ∉ c.us.map (·.z)) ∨ ∃ t, (∀ H', Same H H' → TyX K H' y t) ∧ kit K t "str" false
theorem NoRole.keep {K : PySem.W.Frag} {H H' : Hp} {c : Ct} {y : V} (h : NoRole K H c y) (s : Same H H') : NoRole K H' c y := h.imp id fun ⟨t, ty, k⟩ => ⟨t, fun H2 s2 => ty H2 (s.trans s2), k⟩
section
variable {P : Program} {w : World} {K : PySem.W.Frag} {mg : Str → Option Value} {base : Heap} {C CU : Addr}
abbrev s_Contents_roles : Stmt := inClass (top 27) 1
end
end K09C
namespace K09C
open PySem PySem.Spec PyProof.Rows L2 Jg
theorem CTx.ty {K : PySem.W.Frag} {mg : Str → Option Value} {C : Addr} (J : CTx K mg C) {H : Hp} {x dx : Addr} {fs : List (Str × V)} (h : H x = some (.ins C dx fs)) : TyX K H (.ref x) (.ref C) := .base (.ins h J.cl J.cls_ J.cgt J.ctk J.mro)
section
variable {P : Program} {w : World} {K : PySem.W.Frag} {mg : Str → Option Value} {base : Heap} {C : Addr}
abbrev s_Contents_eq : Stmt := inClass (top 27) 8
end
end K09C
namespace K09C
open PySem PySem.Spec PyProof.Rows L2 Jg
theorem StA.no {H : Hp} {p l : Addr} {o : HO} (h : StA H p) (e : H l = some o) (n : ∀ a b : Int, o ≠ .lst [.int a, .int b]) : l ≠ p := fun z => by
  obtain ⟨a, b, e2, _⟩ := h
  rw [z, e2] at e
  exact n a b (Option.some.inj e).symm
theorem strs_no {ws : List Str} (a b : Int) : HO.lst (ws.map V.str) ≠ .lst [.int a, .int b] := fun z => by
  injection z with z
  cases ws with
  | nil => cases z
  | cons x r => injection z with z1 z2; cases z1
theorem refs_no {ws : List Addr} (a b : Int) : HO.lst (ws.map V.ref) ≠ .lst [.int a, .int b] := fun z => by
  injection z with z
  cases ws with
  | nil => cases z
  | cons x r => injection z with z1 z2; cases z1
theorem StA.keep {H H' : Hp} {p : Addr} (h : StA H p) (s : Same H H') : StA H' p := by
  obtain ⟨a, b, e, z⟩ := h
  exact ⟨a, b, s _ _ e, z⟩
theorem StA.neS {H : Hp} {p l : Addr} {ws : List Str} (h : StA H p) (e : H l = some (.lst (ws.map V.str))) : l ≠ p := h.no e strs_no
structure TRow (H : Hp) (r : Use) : Prop where
  tp : H r.t = some (.tup [.str r.z, .ref r.a, .str r.u])
  ls : H r.a = some (.lst (r.ks.map V.str))
structure Td where
  rows : List Use
  vo : List Str
  le : Int
  sg : Option (List Str)
/-- signers as they are given -/
def SgAt (H : Hp) (sv : V) : Option (List Str) → Prop
  | none => sv = .non
  | some ks => ∃ l, sv = .ref l ∧ H l = some (.lst (ks.map V.str))
structure TdAt (H : Hp) (q : Addr) (d : Td) : Prop where
  ex : ∃ lr lv sv, H q = some (.tup [.ref lr, .ref lv, .int d.le, sv]) ∧ H lr = some (.lst ((d.rows.map (·.t)).map V.ref)) ∧ H lv = some (.lst (d.vo.map V.str)) ∧ SgAt H sv d.sg
  rows : ∀ r ∈ d.rows, TRow H r
theorem TRow.keep {H H' : Hp} {p : Addr} {r : Use} (h : TRow H r) (st : StA H p) (s : SameB p H H') : TRow H' r :=
  ⟨s _ _ h.tp (st.no h.tp fun _ _ z => nomatch z), s _ _ h.ls (st.neS h.ls)⟩
theorem SgAt.keep {H H' : Hp} {p : Addr} {sv : V} {o : Option (List Str)} (h : SgAt H sv o) (st : StA H p) (s : SameB p H H') : SgAt H' sv o := by
  cases o with
  | none => exact h
  | some ks =>
    obtain ⟨l, e, h⟩ := h
    exact ⟨l, e, s _ _ h (st.neS h)⟩
theorem TdAt.keep {H H' : Hp} {p q : Addr} {d : Td} (h : TdAt H q d) (st : StA H p) (s : SameB p H H') : TdAt H' q d := by
  obtain ⟨⟨lr, lv, sv, e1, e2, e3, e4⟩, rs⟩ := h
  exact ⟨⟨lr, lv, sv, s _ _ e1 (st.no e1 fun _ _ z => nomatch z), s _ _ e2 (st.no e2 refs_no), s _ _ e3 (st.neS e3), e4.keep st s⟩, fun r hr => (rs r hr).keep st s⟩
theorem TdAt.same {H H' : Hp} {q : Addr} {d : Td} (h : TdAt H q d) (s : Same H H') : TdAt H' q d := by
  obtain ⟨⟨lr, lv, sv, e1, e2, e3, e4⟩, rs⟩ := h
  refine ⟨⟨lr, lv, sv, s _ _ e1, s _ _ e2, s _ _ e3, ?_⟩, fun r hr => ⟨s _ _ (rs r hr).tp, s _ _ (rs r hr).ls⟩⟩
  cases e : d.sg with
  | none => rw [e] at e4; exact e4
  | some ks =>
    rw [e] at e4
    obtain ⟨l, el, h⟩ := e4
    exact ⟨l, el, s _ _ h⟩
/-- drawn from these words -/
structure TdOk (parts keys hands : List Str) (d : Td) : Prop where
  zs : d.rows.map (·.z) = parts
  rows : ∀ r ∈ d.rows, r.u ∈ keys ∧ r.ks.Nodup ∧ ∀ k ∈ r.ks, k ∈ keys
  vo : d.vo.Sublist hands
  le : 0 ≤ d.le ∧ d.le < 3
  sg : ∀ ks, d.sg = some ks → ks.Sublist hands
section
variable {P : Program} {w : World} {K : PySem.W.Frag} {mg : Str → Option Value} {base : Heap}
abbrev s_law_some : Stmt := top 37
abbrev s_law_told : Stmt := top 39
end
end K09C
namespace K09C
open PySem PySem.Spec PyProof.Rows L2 Jg
structure Sb (hs ks : List Str) : Prop where
  nd : ks.Nodup
  sub : ∀ k ∈ ks, k ∈ hs
theorem nd_len : ∀ {ks hs : List Str}, ks.Nodup → (∀ k ∈ ks, k ∈ hs) → ks.length ≤ hs.length
  | [], _, _, _ => Nat.zero_le _
  | k :: r, hs, nd, sub => by
    rw [List.nodup_cons] at nd
    have h1 := sub k List.mem_cons_self
    have h2 : ∀ x ∈ r, x ∈ hs.erase k := fun x hx => (List.mem_erase_of_ne (fun e => nd.1 (by rw [← e]; exact hx))).mpr (sub x (List.mem_cons_of_mem _ hx))
    have h3 := nd_len nd.2 h2
    rw [List.length_erase_of_mem h1] at h3
    have h4 := List.length_pos_of_mem h1
    rw [List.length_cons]; omega
theorem Sb.len {hs ks : List Str} (h : Sb hs ks) : ks.length ≤ hs.length := nd_len h.nd h.sub
structure TdG (parts keys hands : List Str) (d : Td) : Prop where
  zs : d.rows.map (·.z) = parts
  rows : ∀ r ∈ d.rows, r.u ∈ keys ∧ Sb keys r.ks
  vo : Sb hands d.vo
  le : 0 ≤ d.le ∧ d.le ≤ 4
  sg : ∀ ks, d.sg = some ks → Sb hands ks
theorem TdOk.g {parts keys hands : List Str} {d : Td} (h : TdOk parts keys hands d) (hn : hands.Nodup) : TdG parts keys hands d :=
  ⟨h.zs, fun r hr => ⟨(h.rows r hr).1, (h.rows r hr).2.1, (h.rows r hr).2.2⟩, ⟨hn.sublist h.vo, fun k hk => h.vo.subset hk⟩, ⟨h.le.1, by have := h.le.2; omega⟩, fun ks e => ⟨hn.sublist (h.sg ks e), fun k hk => (h.sg ks e).subset hk⟩⟩
section
variable {P : Program} {w : World} {K : PySem.W.Frag} {mg : Str → Option Value} {base : Heap}
abbrev s_law_turned : Stmt := top 40
abbrev s_law_next : Stmt := top 41
end
end K09C
namespace K09C
open PySem PySem.Spec PyProof.Rows L2 Jg
def hid (M : List Addr) (H : Hp) : Hp := fun q => if q ∈ M then none else H q
theorem hid_in {M : List Addr} {H : Hp} {q : Addr} {o : HO} (h : H q = some o) (n : q ∉ M) : hid M H q = some o := by unfold hid; rw [if_neg n]; exact h
theorem hid_get {M : List Addr} {H : Hp} {q : Addr} {o : HO} (h : hid M H q = some o) : H q = some o ∧ q ∉ M := by
  unfold hid at h
  by_cases c : q ∈ M
  · rw [if_pos c] at h; cases h
  · rw [if_neg c] at h; exact ⟨h, c⟩
inductive TdsAt (parts keys hands : List Str) (H : Hp) : List Addr → List Td → Prop
  | nil : TdsAt parts keys hands H [] []
  | cons {q : Addr} {d : Td} {qs : List Addr} {ds : List Td} : TdAt H q d → TdG parts keys hands d → TdsAt parts keys hands H qs ds → TdsAt parts keys hands H (q :: qs) (d :: ds)
theorem TdsAt.keep {parts keys hands : List Str} {H H' : Hp} {p : Addr} (st : StA H p) (s : SameB p H H') : ∀ {qs : List Addr} {ds : List Td}, TdsAt parts keys hands H qs ds → TdsAt parts keys hands H' qs ds
  | _, _, .nil => .nil
  | _, _, .cons a g r => .cons (a.keep st s) g (r.keep st s)
theorem TdsAt.same {parts keys hands : List Str} {H H' : Hp} (s : Same H H') : ∀ {qs : List Addr} {ds : List Td}, TdsAt parts keys hands H qs ds → TdsAt parts keys hands H' qs ds
  | _, _, .nil => .nil
  | _, _, .cons a g r => .cons (a.same s) g (r.same s)
theorem TdsAt.at_ {parts keys hands : List Str} {H : Hp} : ∀ {qs : List Addr} {ds : List Td} {i : Nat} {q : Addr}, TdsAt parts keys hands H qs ds → qs[i]? = some q → ∃ d, ds[i]? = some d ∧ TdAt H q d ∧ TdG parts keys hands d
  | _, _, i, _, .nil, h => by simp at h
  | _, _, 0, _, .cons a g _, h => by cases Option.some.inj h; exact ⟨_, rfl, a, g⟩
  | _, _, i + 1, _, .cons _ _ r, h => let ⟨d, a, b⟩ := r.at_ (i := i) (by simpa using h); ⟨d, by simpa using a, b⟩
theorem TdsAt.len {parts keys hands : List Str} {H : Hp} : ∀ {qs : List Addr} {ds : List Td}, TdsAt parts keys hands H qs ds → qs.length = ds.length
  | _, _, .nil => rfl
  | _, _, .cons _ _ r => by rw [List.length_cons, List.length_cons, r.len]
structure Gn (p l1 l2 l3 : Addr) (parts keys hands : List Str) (H : Hp) : Prop where
  st : StA H p
  e1 : H l1 = some (.lst (parts.map V.str))
  e2 : H l2 = some (.lst (keys.map V.str))
  e3 : H l3 = some (.lst (hands.map V.str))
structure Wn (parts keys hands : List Str) : Prop where
  p0 : 0 < parts.length
  p3 : parts.length ≤ 3
  k0 : 0 < keys.length
  k5 : keys.length ≤ 50
  kn : keys.Nodup
  h0 : 0 < hands.length
  h5 : hands.length ≤ 50
  hn : hands.Nodup
theorem Gn.keep {p l1 l2 l3 : Addr} {parts keys hands : List Str} {H H' : Hp} (g : Gn p l1 l2 l3 parts keys hands H) (s : SameB p H H') (st : StA H' p) : Gn p l1 l2 l3 parts keys hands H' :=
  ⟨st, s _ _ g.e1 (g.st.neS g.e1), s _ _ g.e2 (g.st.neS g.e2), s _ _ g.e3 (g.st.neS g.e3)⟩
section
variable {P : Program} {w : World} {K : PySem.W.Frag} {mg : Str → Option Value} {base : Heap}
abbrev s_law_tolds : Stmt := top 42
end
end K09C
namespace K09C
open PySem PySem.Spec PyProof.Rows L2 Jg
structure WdL (ks : List Str) (m : Nat) : Prop where
  nd : ks.Nodup
  le : ks.length ≤ m
  wd : ∀ k ∈ ks, Wd k
structure TdR (d : Td) : Prop where
  n1 : 1 ≤ d.rows.length
  n3 : d.rows.length ≤ 3
  nd : (d.rows.map (·.z)).Nodup
  rw_ : ∀ r ∈ d.rows, Wd r.z ∧ Wd r.u ∧ WdL r.ks 8
  vo : WdL d.vo 4
  le : 0 ≤ d.le ∧ d.le ≤ 4
  sg : ∀ ks, d.sg = some ks → WdL ks 4
/-- a list or a tuple of these words -/
def seqO (b : Bool) (ks : List Str) : HO := if b then .lst (ks.map V.str) else .tup (ks.map V.str)
/-- a role's use as it is copied -/
structure CpAt (H : Hp) (D p : Addr) (b : Bool) (r : Row) : Prop where
  pr : H p = some (.tup [.str r.z, .ref r.t])
  tp : H r.t = some (.tup [.ref r.a, .str r.u])
  sq : H r.a = some (seqO b r.ks)
  b_ : r.b = b
  np : p ≠ D
  nt : r.t ≠ D
  na : r.a ≠ D
theorem CpAt.keep {H H' : Hp} {D p : Addr} {b : Bool} {r : Row} (h : CpAt H D p b r) (s : Same H H') : CpAt H' D p b r :=
  ⟨s _ _ h.pr, s _ _ h.tp, s _ _ h.sq, h.b_, h.np, h.nt, h.na⟩
/-- the words of a whole run -/
structure Ww (parts keys hands : List Str) : Prop where
  n : Wn parts keys hands
  pn : parts.Nodup
  k8 : keys.length ≤ 8
  h4 : hands.length ≤ 4
  pw : ∀ z ∈ parts, Wd z
  kw : ∀ z ∈ keys, Wd z
  hw : ∀ z ∈ hands, Wd z
theorem Sb.wdl {hs ks : List Str} {m : Nat} (h : Sb hs ks) (w : ∀ z ∈ hs, Wd z) (le : hs.length ≤ m) : WdL ks m := ⟨h.nd, Nat.le_trans h.len le, fun k hk => w k (h.sub k hk)⟩
theorem TdG.r {parts keys hands : List Str} {d : Td} (g : TdG parts keys hands d) (w : Ww parts keys hands) : TdR d := by
  have len : d.rows.length = parts.length := by rw [← g.zs, List.length_map]
  refine ⟨by rw [len]; exact w.n.p0, by rw [len]; exact w.n.p3, by rw [g.zs]; exact w.pn, fun r hr => ⟨w.pw _ (by rw [← g.zs]; exact List.mem_map_of_mem hr), w.kw _ (g.rows r hr).1, (g.rows r hr).2.wdl w.kw w.k8⟩, g.vo.wdl w.hw w.h4, g.le, fun ks e => (g.sg ks e).wdl w.hw w.h4⟩
section
variable {P : Program} {w : World} {K : PySem.W.Frag} {mg : Str → Option Value} {base : Heap} {C CI : Addr}
abbrev s_law_contents : Stmt := top 44
end
end K09C
namespace Jg
open PySem PySem.Spec PyProof.Rows L2
end Jg
namespace Jg
open PySem PySem.Spec PyProof.Rows L2 PySem.W
end Jg
namespace Jg
open PySem PySem.Spec PyProof.Rows L2
end Jg
namespace K09F
open PySem PySem.Spec PyProof.Rows L2 Jg
def top (i : Nat) : Stmt := PySem.Challenge.pw_gaplesskeys_k09_plans_edited.main.body.getD i (.Pass ⟨0, 0, 0, 0⟩)
def L : Int := 10 ^ 30
structure Kd where
  g : Int
  a : Option Int
  s : Option Str
def oV : Option Int → V
  | none => .non
  | some i => .int i
def sV : Option Str → V
  | none => .non
  | some z => .str z
def kf (u v s : V) : List (Str × V) := [("_gap", u), ("_age", v), ("_source", s)]
def kflds (r : Kd) : List (Str × V) := kf (.int r.g) (oV r.a) (sV r.s)
/-- a kind stands at p -/
def KAt (C : Addr) (H : Hp) (p : Addr) (r : Kd) : Prop := ∃ dx, H p = some (.ins C dx (kflds r))
/-- what the walk asks of the text -/
structure Txt (K : PySem.W.Frag) (mg : Str → Option Value) (C : Addr) : Prop where
  cl : Cls K C
  ng : NoAttr K C "_gap"
  na : NoAttr K C "_age"
  ns : NoAttr K C "_source"
  cKind : mg "Kind" = some (.ref C)
  gLONGEST : ∃ u, mg "LONGEST" = some u ∧ L2.RelV (.int L) u
  b_isinstance : mg "isinstance" = none
  b_int : mg "int" = none
  b_bool : mg "bool" = none
  b_str : mg "str" = none
  b_tuple : mg "tuple" = none
  b_len : mg "len" = none
  b_max : mg "max" = none
  b_min : mg "min" = none
  b_range : mg "range" = none
  b_repr : mg "repr" = none
  gMOST_KINDS : ∃ u, mg "MOST_KINDS" = some u ∧ L2.RelV (.int 5) u
  g_LONGEST_CHAIN : ∃ u, mg "_LONGEST_CHAIN" = some u ∧ L2.RelV (.int 4) u
  b_any : mg "any" = none
  b_set : mg "set" = none
  b_dict : mg "dict" = none
  b_list : mg "list" = none
  b_sorted : mg "sorted" = none
  cls_ : PySem.W.findIn K (.ref C) "__class__" = some (some (.builtin "object.__class__"))
  cgt : PySem.W.specialIn K (.builtin "object.__class__") "__get__" = some (some (.builtin "getset_descriptor.__get__"))
  ctk : PySem.W.takesIn K (.builtin "object.__class__") = some true
  mro : PySem.W.mroIn K C (.type "object") = some true
  ne : PySem.W.findIn K (.ref C) "__ne__" = some (some (.builtin "object.__ne__"))
  kCC : PySem.W.kitOne K (.ref C) (.ref C) = some true
  kN : PySem.W.kitOne K (.type "NoneType") (.ref C) = some false
  kI : PySem.W.kitOne K (.type "int") (.ref C) = some false
  kS : PySem.W.kitOne K (.type "str") (.ref C) = some false
  kL : PySem.W.kitOne K (.type "list") (.ref C) = some false
  kT : PySem.W.kitOne K (.type "tuple") (.ref C) = some false
  kD : PySem.W.kitOne K (.type "dict") (.ref C) = some false
  oCC : PySem.W.notFirst K C (.ref C) = true
  oN : PySem.W.notFirst K C (.type "NoneType") = true
  oI : PySem.W.notFirst K C (.type "int") = true
  oS : PySem.W.notFirst K C (.type "str") = true
  oL : PySem.W.notFirst K C (.type "list") = true
  oT : PySem.W.notFirst K C (.type "tuple") = true
  oD : PySem.W.notFirst K C (.type "dict") = true
section
variable {K : PySem.W.Frag} {mg : Str → Option Value} {C : Addr}
theorem Txt.ty (T : Txt K mg C) {H : Hp} {p : Addr} {r : Kd} (h : KAt C H p r) : TyX K H (.ref p) (.ref C) :=
  let ⟨_, e⟩ := h
  .base (.ins e T.cl T.cls_ T.cgt T.ctk T.mro)
end
abbrev kit (K : PySem.W.Frag) (t : Value) (n : String) (b : Bool) : Prop := PySem.W.kitOne K t (.type n) = some b
/-- no integer, whatever comes -/
def NoInt (K : PySem.W.Frag) (H : Hp) (y : V) : Prop := ∃ t b1 b2, (∀ H', Same H H' → TyX K H' y t) ∧ kit K t "int" b1 ∧ (b1 = true → kit K t "bool" b2) ∧ (b1 && !b2) = false
def BadR (K : PySem.W.Frag) (H : Hp) (lo hi : Int) (y : V) : Prop := (∃ i, y = .int i ∧ (decide (lo ≤ i) && decide (i ≤ hi)) = false) ∨ NoInt K H y
def wordB (z : Str) : Bool := decide (z.length ≤ 8) && (PySem.Txt.isascii z && (PySem.Txt.isalpha z && PySem.Txt.islower z))
def BadW (K : PySem.W.Frag) (H : Hp) (y : V) : Prop := (∃ z, y = .str z ∧ z.length ≤ sizeLine ∧ wordB z = false) ∨ ∃ t, (∀ H', Same H H' → TyX K H' y t) ∧ kit K t "str" false
theorem NoInt.keep {K : PySem.W.Frag} {H H' : Hp} {y : V} (h : NoInt K H y) (s : Same H H') : NoInt K H' y :=
  let ⟨t, b1, b2, ty, r⟩ := h
  ⟨t, b1, b2, fun H2 s2 => ty H2 (s.trans s2), r⟩
theorem BadR.keep {K : PySem.W.Frag} {H H' : Hp} {lo hi : Int} {y : V} (h : BadR K H lo hi y) (s : Same H H') : BadR K H' lo hi y := h.elim .inl fun z => .inr (z.keep s)
theorem BadW.keep {K : PySem.W.Frag} {H H' : Hp} {y : V} (h : BadW K H y) (s : Same H H') : BadW K H' y := h.elim .inl fun ⟨t, ty, r⟩ => .inr ⟨t, fun H2 s2 => ty H2 (s.trans s2), r⟩
def aOk (a : Option Int) : Prop := ∀ i, a = some i → 0 ≤ i ∧ i ≤ L
def sOk (s : Option Str) : Prop := ∀ z, s = some z → z.length ≤ sizeLine ∧ wordB z = true
structure KOk (r : Kd) : Prop where
  g : 1 ≤ r.g ∧ r.g ≤ L
  a : aOk r.a
  s : sOk r.s
end K09F
namespace K09F
open PySem PySem.Spec PyProof.Rows L2 Jg
structure ExnQ (K : PySem.W.Frag) (mg : Str → Option Value) (x : Str) (CI : Addr) (qual : Str) (st : Stmt) (f : Str) : Prop where
  mg_ : mg x = some (.ref CI)
  ovr : Ovr K CI
  xk : ExcK K CI
  no : PySem.W.findIn K (.ref CI) f = some none
  ini : ∃ fI fd, Fun K "__init__" qual st fI fd ∧ PySem.W.findIn K (.ref CI) "__init__" = some (some (.ref fI)) ∧ PySem.W.typeIn K (.ref fI) = some (.type "function")
  te : PySem.W.exmOne K (.ref CI) (.ref CI) = some true
end K09F
namespace K09F
open PySem PySem.Spec PyProof.Rows L2 Jg
/-- all stays, but what stands at p -/
def SameB (p : Addr) (H H' : Hp) : Prop := ∀ q o, H q = some o → q ≠ p → H' q = some o
theorem SameB.trans {p : Addr} {H H1 H2 : Hp} (a : SameB p H H1) (b : SameB p H1 H2) : SameB p H H2 := fun q o e n => b q o (a q o e n) n
theorem SameB.of {p : Addr} {H H1 : Hp} (a : Same H H1) : SameB p H H1 := fun q o e _ => a q o e
theorem SameB.out {p : Addr} {H H1 H2 : Hp} (a : Same H H1) (b : SameB p H1 H2) (n : H p = none) : Same H H2 := fun q o e => b q o (a q o e) (ne_of_none e n)
def StA (H : Hp) (p : Addr) : Prop := ∃ a b, H p = some (.lst [.int a, .int b]) ∧ 0 ≤ a
theorem StA.ne {H : Hp} {p l : Addr} (h : StA H p) (n : H l = none) : l ≠ p := fun z => by
  obtain ⟨a, b, e, _⟩ := h
  rw [z, e] at n
  cases n
def AZ (z : Str) : Prop := ∀ c ∈ z.cps.toList, 97 ≤ c ∧ c ≤ 122
theorem az_sign : ∀ c : Nat, 97 ≤ c → c ≤ 122 → (Unicode.isAlpha c && (Unicode.isLower c && (!Unicode.isUpper c && !Unicode.isTitle c))) = true := by
  intro c h1 h2
  have h : ∀ d ∈ (List.range 26).map (97 + ·), (Unicode.isAlpha d && (Unicode.isLower d && (!Unicode.isUpper d && !Unicode.isTitle d))) = true := by decide +kernel
  exact h c (List.mem_map.mpr ⟨c - 97, List.mem_range.mpr (by omega), by show 97 + (c - 97) = c; omega⟩)
theorem az_all {z : Str} {p : Nat → Bool} (h : AZ z) (hp : ∀ c, 97 ≤ c → c ≤ 122 → p c = true) : z.cps.all p = true := by
  rw [← Array.all_toList]
  exact List.all_eq_true.mpr fun c hc => hp c (h c hc).1 (h c hc).2
theorem az_word {z : Str} (h : AZ z) (h1 : 1 ≤ z.length) (h8 : z.length ≤ 8) : wordB z = true := by
  have pos : 0 < z.cps.toList.length := by
    have e : z.length = z.cps.size := rfl
    rw [Array.length_toList]; omega
  have ha : PySem.Txt.isascii z = true := az_all h fun c _ _ => decide_eq_true (by omega)
  have hb : PySem.Txt.isalpha z = true := by
    unfold PySem.Txt.isalpha
    rw [az_all h fun c h1 h2 => (Bool.and_eq_true_iff.mp (az_sign c h1 h2)).1, Bool.and_true]
    exact decide_eq_true (by omega)
  have hc : PySem.Txt.islower z = true := by
    unfold PySem.Txt.islower
    have k1 : z.cps.any Unicode.isLower = true := by
      rw [← Array.any_toList]
      have m : z.cps.toList[0] ∈ z.cps.toList := List.getElem_mem pos
      exact List.any_eq_true.mpr ⟨_, m, (Bool.and_eq_true_iff.mp (Bool.and_eq_true_iff.mp (az_sign _ (h _ m).1 (h _ m).2)).2).1⟩
    have k2 : (z.cps.any fun c => Unicode.isUpper c || Unicode.isTitle c) = false := by
      rw [← Array.any_toList, List.any_eq_false]
      intro c hc
      have z4 := (Bool.and_eq_true_iff.mp (Bool.and_eq_true_iff.mp (az_sign _ (h _ hc).1 (h _ hc).2)).2).2
      obtain ⟨u1, u2⟩ := Bool.and_eq_true_iff.mp z4
      rw [Bool.not_eq_true'] at u1 u2
      rw [u1, u2]; simp
    rw [k1, k2]; rfl
  unfold wordB
  rw [decide_eq_true h8, ha, hb, hc]; rfl
/-- a word -/
def Wd (z : Str) : Prop := AZ z ∧ 1 ≤ z.length ∧ z.length ≤ 7
theorem Wd.ok {z : Str} (h : Wd z) : z.length ≤ sizeLine ∧ wordB z = true := ⟨by rw [sizeLine_eq]; have := h.2.2; omega, az_word h.1 h.2.1 (Nat.le_succ_of_le h.2.2)⟩
end K09F
namespace K09F
open PySem PySem.Spec PyProof.Rows L2 Jg
theorem same_kat {C : Addr} {H H' : Hp} {p : Addr} {r : Kd} (e : Same H H') (h : KAt C H p r) : KAt C H' p r :=
  let ⟨dx, h⟩ := h
  ⟨dx, e _ _ h⟩
/-- the kinds under their names: name, what it tells, where it stands -/
abbrev Ks := List (Str × Kd × Addr)
def kvs (ks : Ks) : List (Key × V) := ks.map fun e => (Sum.inr e.1, V.ref e.2.2)
def Kds (C : Addr) (H : Hp) (d : Addr) (ks : Ks) : Prop := Rd H d (.dK (kvs ks)) ∧ ∀ e ∈ ks, KAt C H e.2.2 e.2.1 ∧ KOk e.2.1
theorem Kds.keep {C : Addr} {H H' : Hp} {d : Addr} {ks : Ks} (h : Kds C H d ks) (s : Same H H') : Kds C H' d ks := ⟨h.1.elim (fun e => .inl (s _ _ e)) (fun ⟨o, e⟩ => .inr ⟨o, s _ _ e⟩), fun e he => ⟨same_kat s (h.2 e he).1, (h.2 e he).2⟩⟩
end K09F
namespace K09F
open PySem PySem.Spec PyProof.Rows L2 Jg
def ff (d c : Addr) : List (Str × V) := [("_kinds", .ref d), ("_calls", .ref c)]
/-- a fleet stands at f: its kinds ks in the dict at d, its calls in the list at c -/
structure FltAt (F C : Addr) (H : Hp) (f d c : Addr) (ks : Ks) (cs : List V) : Prop where
  at_ : ∃ dx, H f = some (.ins F dx (ff d c))
  ed : H d = some (.dK (kvs ks))
  kds : Kds C H d ks
  cal : H c = some (.lst cs)
section
variable {P : Program} {w : World} {K : PySem.W.Frag} {mg : Str → Option Value} {base : Heap} {C CI CU CO F : Addr}
abbrev s_LimitExceeded_init : Stmt := inClass (top 8) 0
end
end K09F
namespace K09F
open PySem PySem.Spec PyProof.Rows L2 Jg
/-- what is no kind of the fleet -/
def NoKind (K : PySem.W.Frag) (H : Hp) (ks : Ks) (y : V) : Prop := (∃ z, y = .str z ∧ z.length ≤ sizeLine ∧ (wordB z = true → z ∉ ks.map (·.1))) ∨ ∃ t, (∀ H', Same H H' → TyX K H' y t) ∧ kit K t "str" false
theorem NoKind.keep {K : PySem.W.Frag} {H H' : Hp} {ks : Ks} {y : V} (h : NoKind K H ks y) (s : Same H H') : NoKind K H' ks y := h.elim .inl fun ⟨t, ty, k⟩ => .inr ⟨t, fun H2 s2 => ty H2 (s.trans s2), k⟩
theorem FltAt.keep {F C : Addr} {H H' : Hp} {f d c : Addr} {ks : Ks} {cs : List V} (h : FltAt F C H f d c ks cs) (s : Same H H') : FltAt F C H' f d c ks cs :=
  let ⟨⟨dx, e⟩, ed, k, cl⟩ := h
  ⟨⟨dx, s _ _ e⟩, s _ _ ed, k.keep s, s _ _ cl⟩
end K09F
namespace K09F
open PySem PySem.Spec PyProof.Rows L2 Jg
section
variable {P : Program} {w : World} {K : PySem.W.Frag} {mg : Str → Option Value} {base : Heap} {C CA CU CM CO FC : Addr}
abbrev s_InvalidMoment_init : Stmt := inClass (top 3) 0
end
end K09F
namespace K09R
open PySem PySem.Spec PyProof.Rows L2 Jg
def B : Int := 10 ^ 60
def flds (r : Int × Int) : List (Str × V) := [("_low", .int r.1), ("_high", .int r.2)]
/-- a range stands at p -/
def RAt (C : Addr) (H : Hp) (p : Addr) (r : Int × Int) : Prop := ∃ dx, H p = some (.ins C dx (flds r))
/-- what the walk asks of the text -/
structure Txt (K : PySem.W.Frag) (mg : Str → Option Value) (C : Addr) : Prop where
  cl : Cls K C
  nl : NoAttr K C "_low"
  nh : NoAttr K C "_high"
  sf : PySem.W.selfFirst K C = true
  cRange : mg "Range" = some (.ref C)
  gBOUND : ∃ u, mg "BOUND" = some u ∧ L2.RelV (.int B) u
  b_isinstance : mg "isinstance" = none
  b_int : mg "int" = none
  b_bool : mg "bool" = none
  b_str : mg "str" = none
  b_len : mg "len" = none
  b_max : mg "max" = none
  b_min : mg "min" = none
  b_range : mg "range" = none
  b_repr : mg "repr" = none
  b_sorted : mg "sorted" = none
  b_set : mg "set" = none
  cls_ : PySem.W.findIn K (.ref C) "__class__" = some (some (.builtin "object.__class__"))
  cgt : PySem.W.specialIn K (.builtin "object.__class__") "__get__" = some (some (.builtin "getset_descriptor.__get__"))
  ctk : PySem.W.takesIn K (.builtin "object.__class__") = some true
  mro : PySem.W.mroIn K C (.type "object") = some true
  kCC : PySem.W.kitOne K (.ref C) (.ref C) = some true
  kN : PySem.W.kitOne K (.type "NoneType") (.ref C) = some false
  kB : PySem.W.kitOne K (.type "bool") (.ref C) = some false
  kI : PySem.W.kitOne K (.type "int") (.ref C) = some false
  kS : PySem.W.kitOne K (.type "str") (.ref C) = some false
  kL : PySem.W.kitOne K (.type "list") (.ref C) = some false
  kT : PySem.W.kitOne K (.type "tuple") (.ref C) = some false
  kD : PySem.W.kitOne K (.type "dict") (.ref C) = some false
  kCi : PySem.W.kitOne K (.ref C) (.type "int") = some false
  oCC : PySem.W.notFirst K C (.ref C) = true
section
variable {K : PySem.W.Frag} {mg : Str → Option Value} {C : Addr}
theorem Txt.ty (T : Txt K mg C) {H : Hp} {p : Addr} {r : Int × Int} (h : RAt C H p r) : TyX K H (.ref p) (.ref C) :=
  let ⟨_, e⟩ := h
  .base (.ins e T.cl T.cls_ T.cgt T.ctk T.mro)
end
end K09R
namespace Jg
open PySem PySem.Spec PyProof.Rows L2
/-- a def of the module whose code object stands at c -/
structure DefC (K : PySem.W.Frag) (mg : Str → Option Value) (x : Str) (st : Stmt) (c : Addr) : Prop where
  ex : ∃ (f : Addr) (oc : Value) (od : Option Addr) (kV doc pm : Value) (an : Option Addr) (ct : Value) (osl : Array (Option Value)), K.lookup f = some ⟨oc, od, .func (PySem.W.fnOf x x (defArgs st) (defBody st) (defScope st) .none kV doc pm an (.ref c) ct), osl⟩ ∧ PySem.W.codeIn K (.ref c) x = true ∧ PySem.W.keepIn K (.ref f) = true ∧ mg x = some (.ref f)
theorem DefC.of {K : PySem.W.Frag} {h : Heap} {mg : Str → Option Value} {x : Str} {st : Stmt} {c f : Addr} {oc : Value} {od an : Option Addr} {osl : Array (Option Value)} {kV doc pm ct : Value} (X : K.In h) (G : h.Ns mainGlobals mg)
    (a : PySem.W.nsIn K mainGlobals x = some (some (.ref f))) (l : K.lookup f = some ⟨oc, od, .func (PySem.W.fnOf x x (defArgs st) (defBody st) (defScope st) .none kV doc pm an (.ref c) ct), osl⟩)
    (e : PySem.W.codeIn K (.ref c) x = true) (k : PySem.W.keepIn K (.ref f) = true) : DefC K mg x st c := ⟨f, oc, od, kV, doc, pm, an, ct, osl, l, e, k, PySem.W.mg_of X G a⟩
end Jg
namespace K09
open PySem PySem.Spec PyProof.Rows L2 Jg
def top (i : Nat) : Stmt := PySem.Challenge.pw_gaplesskeys_k09_plans_edited.main.body.getD i (.Pass ⟨0, 0, 0, 0⟩)
def LM : Int := 10 ^ 40
/-- the names that plans ask for -/
structure TxP (K : PySem.W.Frag) (mg : Str → Option Value) : Prop where
  g_LAST_MOMENT : ∃ u, mg "_LAST_MOMENT" = some u ∧ L2.RelV (.int LM) u
  gMOST_EDITIONS : ∃ u, mg "MOST_EDITIONS" = some u ∧ L2.RelV (.int 7) u
  b_isinstance : mg "isinstance" = none
  b_tuple : mg "tuple" = none
  b_list : mg "list" = none
  b_len : mg "len" = none
  b_enumerate : mg "enumerate" = none
  b_range : mg "range" = none
  b_zip : mg "zip" = none
  b_max : mg "max" = none
  b_min : mg "min" = none
  b_repr : mg "repr" = none
/-- the class of plans -/
structure PTx (K : PySem.W.Frag) (mg : Str → Option Value) (PC : Addr) : Prop where
  cl : Cls K PC
  cPlan : mg "Plan" = some (.ref PC)
  ne : NoAttr K PC "_editions"
/-- an edition: its moment, the tuple, the contents -/
structure Ed where
  m : Int
  t : Addr
  x : Addr
  c : K09C.Ct
def Ed.v (e : Ed) : V := .ref e.t
structure EdAt (C : Addr) (H : Hp) (e : Ed) : Prop where
  tp : H e.t = some (.tup [.int e.m, .ref e.x])
  ct : K09C.CAt (fun _ => True) C H e.x e.c
  ok : K09C.CtOk e.c
theorem EdAt.same {C : Addr} {H H' : Hp} {e : Ed} (h : EdAt C H e) (s : Same H H') : EdAt C H' e := ⟨s _ _ h.tp, h.ct.same s, h.ok⟩
/-- editions that make a plan -/
structure EdsOk (es : List Ed) : Prop where
  n1 : 1 ≤ es.length
  n7 : es.length ≤ 7
  mo : ∀ e ∈ es, 0 ≤ e.m ∧ e.m ≤ LM
  inc : ∀ (i : Nat) (a b : Ed), es[i]? = some a → es[i + 1]? = some b → a.m < b.m
  rl : ∀ a ∈ es, ∀ b ∈ es, a.c.us.map (·.z) = b.c.us.map (·.z)
section
variable {P : Program} {w : World} {K : PySem.W.Frag} {mg : Str → Option Value} {base : Heap} {C : Addr}
abbrev s_is_moment : Stmt := top 13
abbrev s_is_index : Stmt := top 14
abbrev s_is_tuple_of : Stmt := top 15
abbrev s_is_edition : Stmt := top 30
end
end K09
namespace K09
open PySem PySem.Spec PyProof.Rows L2 Jg
/-- a plan stands at p -/
structure PlAt (PC C : Addr) (H : Hp) (p : Addr) (es : List Ed) : Prop where
  ex : ∃ dx l, H p = some (.ins PC dx [(("_editions" : Str), .ref l)]) ∧ H l = some (.lst (es.map Ed.v))
  eds : ∀ e ∈ es, EdAt C H e
  ok : EdsOk es
theorem PlAt.same {PC C : Addr} {H H' : Hp} {p : Addr} {es : List Ed} (h : PlAt PC C H p es) (s : Same H H') : PlAt PC C H' p es :=
  let ⟨dx, l, e1, e2⟩ := h.ex
  ⟨⟨dx, l, s _ _ e1, s _ _ e2⟩, fun e he => (h.eds e he).same s, h.ok⟩
def Ed.k (e : Ed) : Int × Addr × K09C.Ct := (e.m, e.x, e.c)
section
variable {P : Program} {w : World} {K : PySem.W.Frag} {mg : Str → Option Value} {base : Heap} {C PC CU : Addr}
abbrev s_first_wrong : Stmt := top 31
end
end K09
namespace K09
open PySem PySem.Spec PyProof.Rows L2 Jg
theorem EdsOk.of {es es' : List Ed} (h : es'.map Ed.k = es.map Ed.k) (ok : EdsOk es) : EdsOk es' := by
  have l := congrArg List.length h
  rw [List.length_map, List.length_map] at l
  have mem : ∀ e ∈ es', ∃ q ∈ es, Ed.k q = Ed.k e := fun e he => by
    have m : Ed.k e ∈ es.map Ed.k := h ▸ List.mem_map_of_mem he
    obtain ⟨q, hq, eq⟩ := List.mem_map.mp m
    exact ⟨q, hq, eq⟩
  have at_ : ∀ {i : Nat} {e : Ed}, es'[i]? = some e → ∃ q, es[i]? = some q ∧ Ed.k q = Ed.k e := fun {i e} he => by
    have z : (es'.map Ed.k)[i]? = some (Ed.k e) := by rw [List.getElem?_map, he]; rfl
    rw [h, List.getElem?_map] at z
    cases c : es[i]? with
    | none => rw [c] at z; cases z
    | some q => rw [c] at z; exact ⟨q, rfl, Option.some.inj z⟩
  refine ⟨by rw [l]; exact ok.n1, by rw [l]; exact ok.n7, fun e he => ?_, fun i a b ha hb => ?_, fun a ha b hb => ?_⟩
  · obtain ⟨q, hq, e1⟩ := mem e he
    have z := ok.mo q hq
    rw [show q.m = e.m from congrArg (·.1) e1] at z
    exact z
  · obtain ⟨a', ha', e1⟩ := at_ ha
    obtain ⟨b', hb', e2⟩ := at_ hb
    have z := ok.inc i a' b' ha' hb'
    rw [show a'.m = a.m from congrArg (·.1) e1, show b'.m = b.m from congrArg (·.1) e2] at z
    exact z
  · obtain ⟨a', ha', e1⟩ := mem a ha
    obtain ⟨b', hb', e2⟩ := mem b hb
    have z := ok.rl a' ha' b' hb'
    rw [show a'.c = a.c from congrArg (·.2.2) e1, show b'.c = b.c from congrArg (·.2.2) e2] at z
    exact z
theorem EdAt.of {C : Addr} {H H' : Hp} {e q : Ed} (h : EdAt C H q) (k : Ed.k q = Ed.k e) (s : Same H H') (t : H' e.t = some (.tup [.int e.m, .ref e.x])) : EdAt C H' e := by
  have k2 : q.x = e.x := congrArg (·.2.1) k
  have k3 : q.c = e.c := congrArg (·.2.2) k
  exact ⟨t, by rw [← k2, ← k3]; exact h.ct.same s, by rw [← k3]; exact h.ok⟩
section
variable {P : Program} {w : World} {K : PySem.W.Frag} {mg : Str → Option Value} {base : Heap} {C PC CU CE : Addr}
abbrev s_UnknownEdition_init : Stmt := inClass (top 7) 0
abbrev s_Plan_init : Stmt := inClass (top 32) 0
abbrev s_Plan_len : Stmt := inClass (top 32) 1
abbrev s_Plan_check : Stmt := inClass (top 32) 6
abbrev s_Plan_moment_of : Stmt := inClass (top 32) 7
abbrev s_Plan_contents_of : Stmt := inClass (top 32) 8
abbrev s_Plan_moments : Stmt := inClass (top 32) 9
end
end K09
namespace Jg
open PySem PySem.Spec PyProof.Rows L2
end Jg
namespace Jg
open PySem PySem.Spec PyProof.Rows L2
end Jg
namespace Jg
open PySem PySem.W
def live (o : Obj) : Option Obj := match o with
  | ⟨_, _, .freed, _⟩ => none
  | o => some o
def at_ (objs : Array Obj) (a : Addr) : Option Obj := match objs[a]? with
  | some ⟨_, _, .freed, _⟩ => none
  | o => o
theorem at_live {objs : Array Obj} {a : Addr} {o : Obj} (h : objs[a]? = some o) : at_ objs a = live o := by
  unfold at_ live
  rw [h]
  obtain ⟨c, d, x, t⟩ := o
  cases x <;> rfl
def pick : List Obj → Nat → List Addr → List (Option Obj)
  | [], _, as => as.map fun _ => none
  | _ :: _, _, [] => []
  | o :: r, i, a :: as => match Nat.beq a i with
    | true => live o :: pick r (i + 1) as
    | false => pick r (i + 1) (a :: as)
theorem pick_ok {objs : Array Obj} : ∀ (l : List Obj) (i : Nat) (as : List Addr) (vs : List Obj), (∀ j, l[j]? = objs[i + j]?) → pick l i as = vs.map some → as.map (at_ objs) = vs.map some
  | [], i, as, vs, h, e => by
    have e : as.map (fun _ => (none : Option Obj)) = vs.map some := by cases as <;> exact e
    cases as with
    | nil => exact e
    | cons a as =>
      cases vs with
      | nil => cases e
      | cons v vs => simp at e
  | o :: r, i, [], vs, h, e => e
  | o :: r, i, a :: as, vs, h, e => by
    have h' : ∀ j, r[j]? = objs[i + 1 + j]? := fun j => by
      have z := h (j + 1)
      rw [List.getElem?_cons_succ] at z
      rw [z, show i + (j + 1) = i + 1 + j by omega]
    have e : (match Nat.beq a i with | true => live o :: pick r (i + 1) as | false => pick r (i + 1) (a :: as)) = vs.map some := e
    cases c : Nat.beq a i with
    | true =>
      rw [c] at e
      have ai : a = i := Nat.eq_of_beq_eq_true c
      subst ai
      cases vs with
      | nil => cases e
      | cons v vs =>
        rw [List.map_cons] at e
        injection e with e1 e2
        have z := h 0
        rw [List.getElem?_cons_zero, Nat.add_zero] at z
        rw [List.map_cons, List.map_cons, pick_ok r (a + 1) as vs h' e2, at_live z.symm, e1]
    | false =>
      rw [c] at e
      exact pick_ok r (i + 1) (a :: as) vs h' e
theorem pick_in {K : Params → Frag} {as : List Addr} (e : ∀ P, as = (K P).map (·.1)) (w : World) (s : Shared) (x : pick s.heap.objs.toList 0 as = (K w.params).map fun p => some p.2) : InK K w s.heap :=
  InK.of e w s (by
    have z := pick_ok (objs := s.heap.objs) s.heap.objs.toList 0 as ((K w.params).map (·.2)) (fun j => by rw [Nat.zero_add, Array.getElem?_toList]) (by rw [x, List.map_map]; rfl)
    rw [List.map_map] at z
    exact z)
def pHook (K : Params → Frag) (as : List Addr) (e : ∀ P, as = (K P).map (·.1)) (_ : Unit) (_ : Unit) : Hook :=
  ⟨List (Option Obj), fun s => pick s.heap.objs.toList 0 as, fun w => (K w.params).map fun p => some p.2, InK K, pick_in e, InK.keeps⟩
def pmHook (K : Params → Frag) (as : List Addr) (e : ∀ P, as = (K P).map (·.1)) (ts : List Addr) (_ : Unit) : Hook where
  α := List (Option Obj) × List (Option Obj)
  obs := fun s => (pick s.heap.objs.toList 0 as, ts.map s.heap.get?)
  val := fun w => ((K w.params).map fun p => some p.2, ts.map fun _ => some (tabObj #[]))
  says := fun w h => InK K w h ∧ ∀ P ∈ ts, h.get? P = some (tabObj #[])
  of := fun w s x => ⟨pick_in e w s (Prod.mk.inj x).1, List.map_inj_left.mp (Prod.mk.inj x).2⟩
  keeps := fun w h h' x k => ⟨InK.keeps w h h' x.1 k, fun P hP => k _ _ (x.2 P hP)⟩
theorem p_in_of {K : Params → Frag} {as : List Addr} {e : ∀ P, as = (K P).map (·.1)} {w : World} {h : Heap} (Y : (pHook K as e () ()).says w h) : (K w.params).In h := Y
end Jg
namespace Jg
open PySem PySem.Spec PyProof.Rows L2 GenW
end Jg
namespace Jg
open PySem PySem.Spec PyProof.Rows L2
end Jg
namespace Jg
open PySem PySem.Spec PyProof.Rows L2
/-- tuples of two ints -/
inductive TsAt (H : Hp) : List Addr → List (Int × Int) → Prop
  | nil : TsAt H [] []
  | cons {t : Addr} {a b : Int} {ts : List Addr} {ps : List (Int × Int)} : H t = some (.tup [.int a, .int b]) → TsAt H ts ps → TsAt H (t :: ts) ((a, b) :: ps)
theorem TsAt.mono {H H' : Hp} (s : ∀ q o, H q = some o → H' q = some o ∨ ∀ a b : Int, o ≠ .tup [.int a, .int b]) : ∀ {ts : List Addr} {ps : List (Int × Int)}, TsAt H ts ps → TsAt H' ts ps
  | _, _, .nil => .nil
  | _, _, .cons e r => .cons (by rcases s _ _ e with z | z; exact z; exact absurd rfl (z _ _)) (r.mono s)
theorem TsAt.same {H H' : Hp} {ts : List Addr} {ps : List (Int × Int)} (h : TsAt H ts ps) (s : ∀ q o, H q = some o → H' q = some o) : TsAt H' ts ps := h.mono fun q o e => .inl (s q o e)
theorem TsAt.len {H : Hp} : ∀ {ts : List Addr} {ps : List (Int × Int)}, TsAt H ts ps → ts.length = ps.length
  | _, _, .nil => rfl
  | _, _, .cons e r => congrArg (· + 1) r.len
theorem TsAt.at_ {H : Hp} : ∀ {ts : List Addr} {ps : List (Int × Int)} {i : Nat} {t : Addr}, TsAt H ts ps → ts[i]? = some t → ∃ q, ps[i]? = some q ∧ H t = some (.tup [.int q.1, .int q.2])
  | _, _, i, t, .nil, h => by simp at h
  | _, _, 0, t, .cons e r, h => by cases Option.some.inj h; exact ⟨_, rfl, e⟩
  | _, _, i + 1, t, .cons e r, h => r.at_ (i := i) h
def PrsAt (H : Hp) (l : Addr) (ps : List (Int × Int)) : Prop := ∃ ts : List Addr, H l = some (.lst (ts.map V.ref)) ∧ TsAt H ts ps
theorem PrsAt.same {H H' : Hp} {l : Addr} {ps : List (Int × Int)} (h : PrsAt H l ps) (s : ∀ q o, H q = some o → H' q = some o) : PrsAt H' l ps := by
  obtain ⟨ts, e, t⟩ := h
  exact ⟨ts, s _ _ e, t.same s⟩
def dPr (q : Int × Int) : PyData := .tuple [.int q.1, .int q.2]
theorem TsAt.dp {K : PySem.W.Frag} {H : Hp} : ∀ {ts : List Addr} {ps : List (Int × Int)}, TsAt H ts ps → DpAll K H (ts.map V.ref) (ps.map dPr)
  | _, _, .nil => .nil
  | _, _, .cons e r => .cons (.tup (SqT.of e) (.cons (.int _) (.cons (.int _) .nil))) r.dp
theorem PrsAt.dp {K : PySem.W.Frag} {H : Hp} {l : Addr} {ps : List (Int × Int)} (h : PrsAt H l ps) : Dp K H (.ref l) (.list (ps.map dPr)) := by
  obtain ⟨ts, e, t⟩ := h
  exact .lst (SqL.of e) t.dp
end Jg
namespace Jg
open PySem PySem.Spec PyProof.Rows L2
abbrev Tr := Str × Int × Int
def Tr.v (q : Tr) : List V := [.str q.1, .int q.2.1, .int q.2.2]
inductive TtAt (H : Hp) : List Addr → List Tr → Prop
  | nil : TtAt H [] []
  | cons {t : Addr} {q : Tr} {ts : List Addr} {ps : List Tr} : H t = some (.tup (Tr.v q)) → TtAt H ts ps → TtAt H (t :: ts) (q :: ps)
theorem TtAt.same {H H' : Hp} (s : ∀ q o, H q = some o → H' q = some o) : ∀ {ts : List Addr} {ps : List Tr}, TtAt H ts ps → TtAt H' ts ps
  | _, _, .nil => .nil
  | _, _, .cons e r => .cons (s _ _ e) (r.same s)
theorem TtAt.mono {H H' : Hp} (s : ∀ q o, H q = some o → H' q = some o ∨ ∀ q : Tr, o ≠ .tup (Tr.v q)) : ∀ {ts : List Addr} {ps : List Tr}, TtAt H ts ps → TtAt H' ts ps
  | _, _, .nil => .nil
  | _, _, .cons e r => .cons (by rcases s _ _ e with z | z; exact z; exact absurd rfl (z _)) (r.mono s)
theorem TtAt.len {H : Hp} : ∀ {ts : List Addr} {ps : List Tr}, TtAt H ts ps → ts.length = ps.length
  | _, _, .nil => rfl
  | _, _, .cons e r => congrArg (· + 1) r.len
theorem TtAt.at_ {H : Hp} : ∀ {ts : List Addr} {ps : List Tr} {i : Nat} {t : Addr}, TtAt H ts ps → ts[i]? = some t → ∃ q, ps[i]? = some q ∧ H t = some (.tup (Tr.v q))
  | _, _, i, t, .nil, h => by simp at h
  | _, _, 0, t, .cons e r, h => by cases Option.some.inj h; exact ⟨_, rfl, e⟩
  | _, _, i + 1, t, .cons e r, h => r.at_ (i := i) h
def TrsAt (H : Hp) (l : Addr) (ps : List Tr) : Prop := ∃ ts : List Addr, H l = some (.lst (ts.map V.ref)) ∧ TtAt H ts ps
theorem TrsAt.same {H H' : Hp} {l : Addr} {ps : List Tr} (h : TrsAt H l ps) (s : ∀ q o, H q = some o → H' q = some o) : TrsAt H' l ps := by
  obtain ⟨ts, e, t⟩ := h
  exact ⟨ts, s _ _ e, t.same s⟩
def dTr (q : Tr) : PyData := .tuple [.str q.1, .int q.2.1, .int q.2.2]
theorem TtAt.dp {K : PySem.W.Frag} {H : Hp} : ∀ {ts : List Addr} {ps : List Tr}, TtAt H ts ps → DpAll K H (ts.map V.ref) (ps.map dTr)
  | _, _, .nil => .nil
  | _, _, .cons e r => .cons (.tup (SqT.of e) (.cons (.str _) (.cons (.int _) (.cons (.int _) .nil)))) r.dp
theorem TrsAt.dp {K : PySem.W.Frag} {H : Hp} {l : Addr} {ps : List Tr} (h : TrsAt H l ps) : Dp K H (.ref l) (.list (ps.map dTr)) := by
  obtain ⟨ts, e, t⟩ := h
  exact .lst (SqL.of e) t.dp
end Jg
namespace Jg
open PySem PySem.Spec PyProof.Rows L2
section
variable {α : Type} {v : α → List V}
inductive GtAt (v : α → List V) (H : Hp) : List Addr → List α → Prop
  | nil : GtAt v H [] []
  | cons {t : Addr} {q : α} {ts : List Addr} {ps : List α} : H t = some (.tup (v q)) → GtAt v H ts ps → GtAt v H (t :: ts) (q :: ps)
theorem GtAt.same {H H' : Hp} (s : ∀ q o, H q = some o → H' q = some o) : ∀ {ts : List Addr} {ps : List α}, GtAt v H ts ps → GtAt v H' ts ps
  | _, _, .nil => .nil
  | _, _, .cons e r => .cons (s _ _ e) (r.same s)
theorem GtAt.mono {H H' : Hp} (s : ∀ q o, H q = some o → H' q = some o ∨ ∀ vs, o ≠ .tup vs) : ∀ {ts : List Addr} {ps : List α}, GtAt v H ts ps → GtAt v H' ts ps
  | _, _, .nil => .nil
  | _, _, .cons e r => .cons (by rcases s _ _ e with z | z; exact z; exact absurd rfl (z _)) (r.mono s)
theorem GtAt.len {H : Hp} : ∀ {ts : List Addr} {ps : List α}, GtAt v H ts ps → ts.length = ps.length
  | _, _, .nil => rfl
  | _, _, .cons e r => congrArg (· + 1) r.len
theorem GtAt.at_ {H : Hp} : ∀ {ts : List Addr} {ps : List α} {i : Nat} {t : Addr}, GtAt v H ts ps → ts[i]? = some t → ∃ q, ps[i]? = some q ∧ H t = some (.tup (v q))
  | _, _, i, t, .nil, h => by simp at h
  | _, _, 0, t, .cons e r, h => by cases Option.some.inj h; exact ⟨_, rfl, e⟩
  | _, _, i + 1, t, .cons e r, h => r.at_ (i := i) h
def GsAt (v : α → List V) (H : Hp) (l : Addr) (ps : List α) : Prop := ∃ ts : List Addr, H l = some (.lst (ts.map V.ref)) ∧ GtAt v H ts ps
theorem GsAt.same {H H' : Hp} {l : Addr} {ps : List α} (h : GsAt v H l ps) (s : ∀ q o, H q = some o → H' q = some o) : GsAt v H' l ps := by
  obtain ⟨ts, e, t⟩ := h
  exact ⟨ts, s _ _ e, t.same s⟩
theorem GsAt.nil {H : Hp} {l : Addr} (h : H l = some (.lst [])) : GsAt v H l [] := ⟨[], h, .nil⟩
/-- the tuples as data -/
structure Gd [DecidableEq α] (v : α → List V) (d : α → PyData) (ok : α → Prop) : Prop where
  dp : ∀ {K : PySem.W.Frag} {H : Hp} {t : Addr} {q : α}, H t = some (.tup (v q)) → Dp K H (.ref t) (d q)
  lay : ∀ q, ok q → (d q).canLay0 = true
  dep : ∀ q, (d q).depth ≤ 2
  eqv : ∀ p q, PyData.eqv (d p) (d q) = decide (p = q)
variable [DecidableEq α] {d : α → PyData} {ok : α → Prop}
theorem GtAt.dp (g : Gd v d ok) {K : PySem.W.Frag} {H : Hp} : ∀ {ts : List Addr} {ps : List α}, GtAt v H ts ps → DpAll K H (ts.map V.ref) (ps.map d)
  | _, _, .nil => .nil
  | _, _, .cons e r => .cons (g.dp e) (GtAt.dp g r)
theorem GsAt.dp (g : Gd v d ok) {K : PySem.W.Frag} {H : Hp} {l : Addr} {ps : List α} (h : GsAt v H l ps) : Dp K H (.ref l) (.list (ps.map d)) := by
  obtain ⟨ts, e, t⟩ := h
  exact .lst (SqL.of e) (GtAt.dp g t)
variable {K : PySem.W.Frag} {H : Hp} {Q : VK}
end
abbrev I3 := Int × Int × Int
def d3 (q : I3) : PyData := .tuple [.int q.1, .int q.2.1, .int q.2.2]
end Jg
namespace Jg.Szp
open PySem PySem.Spec PyProof.Rows PySem.W PySem.Calls PyProof.V
/-- a zip while its i-th pair is asked for; S: where the pairs are put -/
def ZSt (z TI TO i1 i2 l1 l2 S : Addr) (xs ys : Array Value) (i : Nat) (h : Heap) : Prop :=
  IsPair h TI (.ref i1) (.ref i2) ∧ h.IsListIter i1 l1 i ∧ h.IsListIter i2 l2 i ∧ h.IsList l1 xs ∧ h.IsList l2 ys ∧
    ((IsZip h z TI TO .none ∧ ∃ a b, IsPair h TO a b) ∨ ∃ T f oT, IsZipHeld h z TI TO T f ∧ h.get? T = some oT ∧ T ≠ z ∧ T ≠ i1 ∧ T ≠ i2 ∧ T ≠ S)
structure ZOff (z TI TO i1 i2 l1 l2 S : Addr) : Prop where
  z : z ≠ S
  TI : TI ≠ S
  TO : TO ≠ S
  i1 : i1 ≠ S
  i2 : i2 ≠ S
  l1 : l1 ≠ S
  l2 : l2 ≠ S
theorem ZSt.keep {z TI TO i1 i2 l1 l2 S : Addr} {xs ys : Array Value} {i : Nat} {h h' : Heap} (o : ZOff z TI TO i1 i2 l1 l2 S) (st : ZSt z TI TO i1 i2 l1 l2 S xs ys i h) (k : ∀ b o, b ≠ S → h.get? b = some o → h'.get? b = some o) : ZSt z TI TO i1 i2 l1 l2 S xs ys i h' := by
  obtain ⟨hTI, h1, h2, hl1, hl2, hz⟩ := st
  refine ⟨k _ _ o.TI hTI, h1.at fun _ e => k _ _ o.i1 e, h2.at fun _ e => k _ _ o.i2 e, hl1.at fun _ e => k _ _ o.l1 e, hl2.at fun _ e => k _ _ o.l2 e, ?_⟩
  rcases hz with ⟨hz, a, b, hTO⟩ | ⟨T, f, oT, hz, hT, r1, r2, r3, r4⟩
  · exact .inl ⟨k _ _ o.z hz, a, b, k _ _ o.TO hTO⟩
  · exact .inr ⟨T, f, oT, k _ _ o.z hz, k _ _ r4 hT, r1, r2, r3, r4⟩
theorem ZSt.type {z TI TO i1 i2 l1 l2 S : Addr} {xs ys : Array Value} {i : Nat} {s : Shared} (st : ZSt z TI TO i1 i2 l1 l2 S xs ys i s.heap) : s.TypeIs (.ref z) "zip" := by
  obtain ⟨_, _, _, _, _, hz⟩ := st
  rcases hz with ⟨hz, _⟩ | ⟨T, f, oT, hz, _⟩
  · exact ⟨_, hz, rfl⟩
  · exact ⟨_, hz, rfl⟩
structure MadeZ (xs ys : Array Value) (lo : Addr) (h : Heap) (as : List Addr) : Prop where
  rise : as.Pairwise (· < ·)
  above : ∀ a ∈ as, lo ≤ a
  pairs : ∀ (j : Nat) (a : Addr), as[j]? = some a → ∃ x y, xs[j]? = some x ∧ ys[j]? = some y ∧ IsPair h a x y
theorem MadeZ.there {xs ys : Array Value} {lo : Addr} {h : Heap} {as : List Addr} (g : MadeZ xs ys lo h as) {a : Addr} (ha : a ∈ as) : a < h.objs.size := by
  obtain ⟨j, hj⟩ := List.mem_iff_getElem?.mp ha
  obtain ⟨_, _, _, _, e⟩ := g.pairs j a hj
  exact Heap.lt_size e
theorem MadeZ.keep {xs ys : Array Value} {lo : Addr} {h h' : Heap} {as : List Addr} (g : MadeZ xs ys lo h as) (k : ∀ a o, lo ≤ a → h.get? a = some o → h'.get? a = some o) : MadeZ xs ys lo h' as :=
  ⟨g.rise, g.above, fun j a hj => let ⟨x, y, e1, e2, e3⟩ := g.pairs j a hj; ⟨x, y, e1, e2, k a _ (g.above a (List.mem_of_getElem? hj)) e3⟩⟩
end Jg.Szp
namespace Jg
open PySem PySem.Spec PyProof.Rows L2
end Jg
namespace Jg
open PySem PySem.Spec PyProof.Rows L2
theorem TsAt.rows {H : Hp} : ∀ {ts : List Addr} {ps : List (Int × Int)}, TsAt H ts ps → ∃ rs : List (Addr × Int × Int), rs.map (·.1) = ts ∧ rs.map (·.2) = ps ∧ ∀ r ∈ rs, H r.1 = some (.tup [.int r.2.1, .int r.2.2])
  | _, _, .nil => ⟨[], rfl, rfl, fun _ h => nomatch h⟩
  | _, _, .cons (t := t) (a := x) (b := y) e h => by
    obtain ⟨rs, e1, e2, e3⟩ := h.rows
    refine ⟨(t, x, y) :: rs, by rw [List.map_cons, e1], by rw [List.map_cons, e2], fun r hr => ?_⟩
    rcases List.mem_cons.mp hr with rfl | hr
    · exact e
    · exact e3 r hr
end Jg
namespace K09
open PySem PySem.Spec PyProof.Rows L2 Jg
open K09C (Ct CAt CtOk Use)
/-- the class of plans, compared -/
structure PEx (K : PySem.W.Frag) (PC : Addr) : Prop where
  cls_ : PySem.W.findIn K (.ref PC) "__class__" = some (some (.builtin "object.__class__"))
  cgt : PySem.W.specialIn K (.builtin "object.__class__") "__get__" = some (some (.builtin "getset_descriptor.__get__"))
  ctk : PySem.W.takesIn K (.builtin "object.__class__") = some true
  mro : PySem.W.mroIn K PC (.type "object") = some true
  ne : PySem.W.findIn K (.ref PC) "__ne__" = some (some (.builtin "object.__ne__"))
  kCC : PySem.W.kitOne K (.ref PC) (.ref PC) = some true
  oCC : PySem.W.notFirst K PC (.ref PC) = true
theorem PEx.ty {K : PySem.W.Frag} {mg : Str → Option Value} {PC : Addr} (J : PEx K PC) (PT : PTx K mg PC) {H : Hp} {x dx : Addr} {fs : List (Str × V)} (h : H x = some (.ins PC dx fs)) : TyX K H (.ref x) (.ref PC) := .base (.ins h PT.cl J.cls_ J.cgt J.ctk J.mro)
section
variable {P : Program} {w : World} {K : PySem.W.Frag} {mg : Str → Option Value} {base : Heap} {C PC : Addr}
abbrev s_Plan_eq : Stmt := inClass (top 32) 5
end
end K09
namespace K09
open PySem PySem.Spec PyProof.Rows L2 Jg
open K09C (Ct CAt CtOk hid hid_in hid_get)
/-- a plan whose editions stand beside it -/
structure PlX (PC C : Addr) (H : Hp) (p : Addr) (es : List Ed) : Prop where
  ex : ∃ dx l, H p = some (.ins PC dx [(("_editions" : Str), .ref l)]) ∧ hid [p] H l = some (.lst (es.map Ed.v))
  eds : ∀ e ∈ es, EdAt C (hid [p] H) e
  ok : EdsOk es
theorem hid_keep {M : List Addr} {H H' : Hp} (s : Same H H') : Same (hid M H) (hid M H') := fun q o e => hid_in (s _ _ (hid_get e).1) (hid_get e).2
theorem PlX.same {PC C p : Addr} {H H' : Hp} {es : List Ed} (h : PlX PC C H p es) (s : Same H H') : PlX PC C H' p es :=
  let ⟨dx, l, e1, e2⟩ := h.ex
  ⟨⟨dx, l, s _ _ e1, hid_keep s _ _ e2⟩, fun e he => (h.eds e he).same (hid_keep s), h.ok⟩
section
variable {P : Program} {w : World} {K : PySem.W.Frag} {mg : Str → Option Value} {base : Heap} {C PC CU CE CO CP RC FC KC : Addr}
abbrev s_Plan_add : Stmt := inClass (top 32) 11
abbrev s_Plan_drop : Stmt := inClass (top 32) 12
end
end K09
namespace K09
open PySem PySem.Spec PyProof.Rows L2 Jg
open K09C (Ct CAt CtOk hid hid_in hid_get)
/-- the editions of a plan stand beside it -/
theorem PlAt.x {PC C p : Addr} {H : Hp} {es : List Ed} (h : PlAt PC C H p es) : PlX PC C H p es := by
  obtain ⟨⟨dx, l, e1, e2⟩, eds, ok⟩ := h
  have m : ∀ {q : Addr} {o : HO}, H q = some o → o ≠ .ins PC dx [(("_editions" : Str), .ref l)] → hid [p] H q = some o := fun {q o} e n => hid_in e fun z => by
    rw [List.mem_singleton.mp z, e1] at e
    exact n (Option.some.inj e).symm
  refine ⟨⟨dx, l, e1, m e2 (fun z => by cases z)⟩, fun e he => ?_, ok⟩
  obtain ⟨t1, ⟨⟨dx2, d, v, s, c1, c2, c3, c4, r⟩, us⟩, ok2⟩ := eds e he
  refine ⟨m t1 (fun z => by cases z), ⟨⟨dx2, d, v, s, m c1 (fun z => ?_), m c2 (fun z => by cases z), m c3 (fun z => by cases z), m c4 (fun z => by cases z), r⟩, fun q hq => ⟨m (us q hq).tp (fun z => by cases z), m (us q hq).ls (fun z => by cases z), trivial, trivial⟩⟩, ok2⟩
  have f := (HO.ins.inj z).2.2
  have f := congrArg List.length f
  have : (4 : Nat) = 1 := f
  omega
section
variable {P : Program} {w : World} {K : PySem.W.Frag} {mg : Str → Option Value} {base : Heap} {C PC CU CE CO CP RC FC KC : Addr}
abbrev s_Plan_getitem : Stmt := inClass (top 32) 3
abbrev s_Plan_setitem : Stmt := inClass (top 32) 4
end
end K09
namespace K09
open PySem PySem.Spec PyProof.Rows L2 Jg
open K09C (Ct CAt CtOk)
section
variable {P : Program} {w : World} {K : PySem.W.Frag} {mg : Str → Option Value} {base : Heap} {C PC CU CE CO CP CM RC FC KC : Addr}
abbrev s_Plan_twin : Stmt := inClass (top 32) 13
abbrev s_Plan_current : Stmt := inClass (top 32) 10
end
end K09
namespace K09
open PySem PySem.Spec PyProof.Rows L2 Jg
open K09C (Ct)
section
variable {P : Program} {w : World} {K : PySem.W.Frag} {mg : Str → Option Value} {base : Heap} {C PC CU CE RC FC KC : Addr}
abbrev s_Plan_cut : Stmt := inClass (top 32) 14
end
open K09C (StA SameB Wd)
section
variable {P : Program} {w : World} {K : PySem.W.Frag} {mg : Str → Option Value} {base : Heap}
abbrev s_law_moments : Stmt := top 43
end
end K09
namespace K09
open PySem PySem.Spec PyProof.Rows L2 Jg
open K09C (Ct CAt CtOk)
section
variable {P : Program} {w : World} {K : PySem.W.Frag} {mg : Str → Option Value} {base : Heap} {C PC CU CE CO CP CM RC FC KC : Addr}
abbrev s_law_good : Stmt := top 46
end
end K09
namespace K09
open PySem PySem.Spec PyProof.Rows L2 Jg
open K09C (Ct CAt CtOk StA SameB hid hid_in hid_get)
/-- what is done to a plan -/
inductive Deed
  | add (e : Ed)
  | drop
  | set (n : Nat) (e : Ed)
def Deed.row : Deed → List V
  | .add e => [.str "add", .ref e.t]
  | .drop => [.str "drop"]
  | .set n e => [.str "set", .int n, .ref e.t]
/-- the deed stands: its edition, its number -/
def DeedAt (C : Addr) (H : Hp) (es : List Ed) (hi : Int) : Deed → Prop
  | .add e => EdAt C H e ∧ 0 ≤ e.m ∧ e.m ≤ hi
  | .drop => True
  | .set n e => EdAt C H e ∧ 0 ≤ e.m ∧ e.m ≤ hi ∧ n ≤ es.length
theorem DeedAt.same {C : Addr} {H H' : Hp} {es : List Ed} {hi : Int} {d : Deed} (h : DeedAt C H es hi d) (s : Same H H') : DeedAt C H' es hi d := by
  cases d with
  | add e => exact ⟨h.1.same s, h.2⟩
  | drop => trivial
  | set n e => exact ⟨h.1.same s, h.2⟩
section
variable {P : Program} {w : World} {K : PySem.W.Frag} {mg : Str → Option Value} {base : Heap} {C PC CU CE CO CP CM RC FC KC : Addr}
abbrev s_law_step : Stmt := top 47
end
end K09
namespace K09
open PySem PySem.Spec PyProof.Rows L2 Jg
open K09C (Ct CAt CtOk hid hid_in hid_get)
/-- what does not take each other among the exceptions of a step -/
structure TstD (K : PySem.W.Frag) (PC CE CP CO : Addr) : Prop where
  ns : PySem.W.noSeq K PC = true
  xPE : PySem.W.exmOne K (.ref CP) (.ref CE) = some false
  xOE : PySem.W.exmOne K (.ref CO) (.ref CE) = some false
  xOP : PySem.W.exmOne K (.ref CO) (.ref CP) = some false
section
variable {P : Program} {w : World} {K : PySem.W.Frag} {mg : Str → Option Value} {base : Heap} {C PC CU CE CO CP CM RC FC KC : Addr} {st1 st2 st3 : Stmt}
abbrev s_law_done : Stmt := top 48
end
end K09
namespace K09
open PySem PySem.Spec PyProof.Rows L2 Jg
open K09C (Ct CAt CtOk)
section
variable {P : Program} {w : World} {K : PySem.W.Frag} {mg : Str → Option Value} {base : Heap} {C PC CU CE CO CP CM RC FC KC : Addr}
abbrev s_law_is_right : Stmt := top 45
end
end K09
namespace K09
open PySem PySem.Spec PyProof.Rows L2 Jg
open K09C (hid hid_in hid_get)
def Mono (P : Hp → V → Prop) : Prop := ∀ H H' v, Same H H' → P H v → P H' v
structure Gv (H0 : Hp) (σ : L2.St) (te : TE) (P : Hp → V → Prop) : Prop where
  mo : Mono P
  run : ∀ (M : List Addr) (H : Hp) (Q : VK), Same H0 (hid M H) → (∀ q ∈ M, H q ≠ none) → (∀ v H', Same H H' → P (hid M H') v → Q v H') → te σ H Q
theorem Gv.imp {H0 : Hp} {σ : L2.St} {te : TE} {P P' : Hp → V → Prop} (h : Gv H0 σ te P) (mo : Mono P') (i : ∀ H v, Same H0 H → P H v → P' H v) : Gv H0 σ te P' := ⟨mo, fun M H Q s n q => h.run M H Q s n fun v H' s' p => q v H' s' (i _ v (s.trans (hid_keep s')) p)⟩
theorem Tabs.same {T : List (Addr × Str)} {H H' : Hp} (t : LamX.Tabs T H) (s : Same H H') : LamX.Tabs T H' := LamX.Tabs.ext t s
def ShwF (K : PySem.W.Frag) (H : Hp) (y : V) : Prop := ∃ tx, okW tx ∧ ∀ H', Same H H' → Shw K H' y tx
theorem ShwF.keep {K : PySem.W.Frag} {H H' : Hp} {y : V} (h : ShwF K H y) (s : Same H H') : ShwF K H' y := let ⟨t, o, k⟩ := h; ⟨t, o, fun H2 s2 => k H2 (s.trans s2)⟩
def Fc (d : PyData) : Prop := ∀ c ∈ tlS d.shown, c < 0x110000
theorem Fc.ok {d : PyData} (h : Fc d) : okW d.shown := by
  show PyData.strOk _ = true
  unfold PyData.strOk
  exact Array.all_eq_true_iff_forall_mem.mpr fun c hc => decide_eq_true (h c (by unfold tlS; exact Array.mem_toList_iff.mpr hc))
structure TstG (K : PySem.W.Frag) (mg : Str → Option Value) (CM CG : Addr) : Prop where
  gG : mg "GapError" = some (.ref CG)
  kMG : PySem.W.kitOne K (.ref CM) (.ref CG) = some true
section
variable {P : Program} {w : World} {K : PySem.W.Frag} {mg : Str → Option Value} {base : Heap} {C PC CM CG : Addr} {st1 : Stmt}
abbrev s_law_current_refused : Stmt := top 49
end
end K09
namespace K09
open PySem PySem.Spec PyProof.Rows L2 Jg
open K09C (Use Td TdAt TdsAt TdG TdR Ww Wn Gn Ct CAt CtOk Wd StA SameB hid hid_in hid_get)
/-- what stays as it is -/
structure Lv (PC C p ls pl tw lb ct : Addr) (cs : List (Addr × Ct)) (bs et ec : List Ed) (H1 H : Hp) : Prop where
  st : StA H p
  es_ : hid [p, pl] H ls = some (.lst (cs.map fun q => V.ref q.1))
  ca : ∀ q ∈ cs, CAt (fun _ => True) C (hid [p, pl] H) q.1 q.2 ∧ CtOk q.2
  tw : PlAt PC C (hid [p, pl] H) tw et
  ct : PlAt PC C (hid [p, pl] H) ct ec
  eb : hid [p, pl] H lb = some (.lst (bs.map Ed.v))
  ab : ∀ e ∈ bs, EdAt C (hid [p, pl] H) e
  sm : Same H1 H
  np : H1 p = none
  npl : H1 pl = none
  pp : pl ≠ p
theorem Lv.mono {PC C p ls pl tw lb ct : Addr} {cs : List (Addr × Ct)} {bs et ec : List Ed} {H1 H H' : Hp} (h : Lv PC C p ls pl tw lb ct cs bs et ec H1 H) (st : StA H' p) (s : Same (hid [p, pl] H) (hid [p, pl] H')) : Lv PC C p ls pl tw lb ct cs bs et ec H1 H' :=
  ⟨st, s _ _ h.es_, fun q hq => ⟨(h.ca q hq).1.same s, (h.ca q hq).2⟩, h.tw.same s, h.ct.same s, s _ _ h.eb, fun e he => (h.ab e he).same s, fun q o e => (hid_get (s _ _ (hid_in (h.sm _ _ e) fun z => by
    rcases List.mem_cons.mp z with z | z
    · rw [z, h.np] at e; cases e
    · rw [List.mem_singleton.mp z, h.npl] at e; cases e))).1, h.np, h.npl, h.pp⟩
theorem DeedAt.mono {C : Addr} {H H' : Hp} {rs es : List Ed} {hi hi' : Int} {d : Deed} (h : DeedAt C H rs hi d) (s : Same H H') (le : hi ≤ hi') (l : rs.length = es.length) : DeedAt C H' es hi' d := by
  cases d with
  | add e => exact ⟨h.1.same s, h.2.1, Int.le_trans h.2.2 le⟩
  | drop => trivial
  | set n e => exact ⟨h.1.same s, h.2.1, Int.le_trans h.2.2.1 le, by have := h.2.2.2; omega⟩
end K09
namespace K09
open PySem PySem.Spec PyProof.Rows L2 Jg
open K09C (Use Td TdAt TdsAt TdG TdR Ww Wn Gn Ct CAt CtOk Wd StA SameB hid hid_in hid_get)
def spLaw (K : PySem.W.Frag) : Sp := fun vs H Q _ => ∃ (a : Addr) (ns : List Int), vs = [.ref a] ∧ SqL K H a (ns.map V.int) ∧ ns.length ≤ 63 ∧ ∀ H', Q (.bl true) H'
/-- a plan and a list -/
structure TstQ (K : PySem.W.Frag) (PC : Addr) : Prop where
  kLP : PySem.W.kitOne K (.type "list") (.ref PC) = some false
  oLP : PySem.W.notFirst K PC (.type "list") = true
section
variable {P : Program} {w : World} {K : PySem.W.Frag} {mg : Str → Option Value} {base : Heap} {C PC CU CE CO CP CM : Addr}
abbrev s_law : Stmt := top 50
end
end K09
namespace K09
open PySem PySem.Spec PyProof.Rows L2 Jg
structure PGx (K : PySem.W.Frag) (PC : Addr) : Prop where
  fn : ∀ f, PySem.W.findIn K (.ref PC) "__getitem__" = some (some (.ref f)) → PySem.W.fnIn K f = true
section
variable {P : Program} {w : World} {K : PySem.W.Frag} {mg : Str → Option Value} {base : Heap} {CP : Addr}
abbrev s_InvalidPlan_init : Stmt := inClass (top 5) 0
abbrev s_is_between : Stmt := top 12
end
end K09
namespace K09
open PySem PySem.Spec PyProof.Rows L2 Jg
open K09C (StA SameB Wd hid hid_in hid_get)
theorem LM_eq : LM = 10000000000000000000000000000000000000000 := by decide +kernel
theorem ExnF_of {K : PySem.W.Frag} {h : Heap} {mg : Str → Option Value} {x : Str} {CI : Addr} {qual : Str} {st : Stmt} {f : Str} {B nid iid : String} {line : List Value} {fI : Addr} {oc : Value} {od an : Option Addr} {osl : Array (Option Value)} {kV doc pm cdv ct : Value}
    (X : K.In h) (G : h.Ns mainGlobals mg) (fB : ExcBaseFacts B nid iid line) (sB : StoreFacts B line "object.__setattr__" "object") (aI : PySem.W.nsIn K mainGlobals x = some (some (.ref CI))) (xI : PySem.W.excInitIn K CI line nid = true) (xO : PySem.W.excOver K CI line = true)
    (sa : PySem.W.findIn K (.ref CI) "__setattr__" = some (some (.builtin "object.__setattr__"))) (exC : PySem.W.subIn K (.ref CI) (.type "BaseException") = some true) (tyC : PySem.W.typeIn K (.ref CI) = some (.type "type")) (kC : PySem.W.keepIn K (.ref CI) = true)
    (ga : PySem.W.findIn K (.ref CI) "__getattribute__" = some (some (.builtin "BaseException.__getattribute__"))) (gg : PySem.W.findIn K (.ref CI) "__getattr__" = some none) (hdC : PySem.W.hasDictIn K CI = true)
    (ha : PySem.W.findIn K (.ref CI) "__class__" = some (some (.builtin "object.__class__"))) (hn : PySem.W.specialIn K (.builtin "object.__class__") "__get__" = some (some (.builtin "getset_descriptor.__get__"))) (ht : PySem.W.takesIn K (.builtin "object.__class__") = some true) (hm : PySem.W.mroIn K CI (.type "object") = some true)
    (no : PySem.W.findIn K (.ref CI) f = some none) (iI : PySem.W.findIn K (.ref CI) "__init__" = some (some (.ref fI))) (tI : PySem.W.typeIn K (.ref fI) = some (.type "function"))
    (l : K.lookup fI = some ⟨oc, od, .func (PySem.W.fnOf "__init__" qual (defArgs st) (defBody st) (defScope st) .none kV doc pm an cdv ct), osl⟩) (c : PySem.W.codeIn K cdv qual = true) (k : PySem.W.keepIn K (.ref fI) = true)
    (sC : PySem.W.subIn K (.ref CI) (.ref CI) = some true) : K09F.ExnQ K mg x CI qual st f :=
  ⟨PySem.W.mg_of X G aI, ⟨B, nid, iid, line, fB, sB, xI, xO, hdC, sa, exC, tyC, kC⟩, ⟨⟨ga, gg, exC, hdC⟩, ha, hn, ht, hm⟩, no, ⟨fI, _, fun_mk l c k, iI, tI⟩, PySem.W.exm_ref exC hdC tyC sC⟩
theorem K09C_Txt_of {K : PySem.W.Frag} {mg : Str → Option Value} {h : Heap} {t_g_MOST_ROLES : Tok} {t_g_MOST_ACCEPTED : Tok} {t_g_MOST_VOUCHERS : Tok} {t_g_MOST_NEEDED : Tok} (X : K.In h) (G : h.Ns mainGlobals mg) (h_b_isinstance : PySem.W.nsIn K mainGlobals "isinstance" = some none) (h_b_int : PySem.W.nsIn K mainGlobals "int" = some none) (h_b_bool : PySem.W.nsIn K mainGlobals "bool" = some none) (h_b_str : PySem.W.nsIn K mainGlobals "str" = some none) (h_b_list : PySem.W.nsIn K mainGlobals "list" = some none) (h_b_tuple : PySem.W.nsIn K mainGlobals "tuple" = some none) (h_b_dict : PySem.W.nsIn K mainGlobals "dict" = some none) (h_b_len : PySem.W.nsIn K mainGlobals "len" = some none) (h_b_all : PySem.W.nsIn K mainGlobals "all" = some none) (h_b_any : PySem.W.nsIn K mainGlobals "any" = some none) (h_b_set : PySem.W.nsIn K mainGlobals "set" = some none) (h_b_sorted : PySem.W.nsIn K mainGlobals "sorted" = some none) (h_b_max : PySem.W.nsIn K mainGlobals "max" = some none) (h_b_min : PySem.W.nsIn K mainGlobals "min" = some none) (h_b_range : PySem.W.nsIn K mainGlobals "range" = some none) (h_b_repr : PySem.W.nsIn K mainGlobals "repr" = some none) (h_b_sum : PySem.W.nsIn K mainGlobals "sum" = some none) (h_g_MOST_ROLES : PySem.W.nsIn K mainGlobals "_MOST_ROLES" = some (some (.int 3 t_g_MOST_ROLES))) (h_g_MOST_ACCEPTED : PySem.W.nsIn K mainGlobals "_MOST_ACCEPTED" = some (some (.int 8 t_g_MOST_ACCEPTED))) (h_g_MOST_VOUCHERS : PySem.W.nsIn K mainGlobals "_MOST_VOUCHERS" = some (some (.int 4 t_g_MOST_VOUCHERS))) (h_g_MOST_NEEDED : PySem.W.nsIn K mainGlobals "_MOST_NEEDED" = some (some (.int 4 t_g_MOST_NEEDED))) : K09C.Txt K mg :=
  ⟨PySem.W.mg_none_of X G h_b_isinstance, PySem.W.mg_none_of X G h_b_int, PySem.W.mg_none_of X G h_b_bool, PySem.W.mg_none_of X G h_b_str, PySem.W.mg_none_of X G h_b_list, PySem.W.mg_none_of X G h_b_tuple, PySem.W.mg_none_of X G h_b_dict, PySem.W.mg_none_of X G h_b_len, PySem.W.mg_none_of X G h_b_all, PySem.W.mg_none_of X G h_b_any, PySem.W.mg_none_of X G h_b_set, PySem.W.mg_none_of X G h_b_sorted, PySem.W.mg_none_of X G h_b_max, PySem.W.mg_none_of X G h_b_min, PySem.W.mg_none_of X G h_b_range, PySem.W.mg_none_of X G h_b_repr, PySem.W.mg_none_of X G h_b_sum, ⟨_, PySem.W.mg_of X G h_g_MOST_ROLES, t_g_MOST_ROLES, rfl⟩, ⟨_, PySem.W.mg_of X G h_g_MOST_ACCEPTED, t_g_MOST_ACCEPTED, rfl⟩, ⟨_, PySem.W.mg_of X G h_g_MOST_VOUCHERS, t_g_MOST_VOUCHERS, rfl⟩, ⟨_, PySem.W.mg_of X G h_g_MOST_NEEDED, t_g_MOST_NEEDED, rfl⟩⟩
theorem K09C_CTx_of {K : PySem.W.Frag} {mg : Str → Option Value} {C : Addr} {h : Heap} (X : K.In h) (G : h.Ns mainGlobals mg) (h_cl1 : PySem.W.plainGet K C Str.empty = true) (h_cl2 : PySem.W.hasDictIn K C = true) (h_cl3 : PySem.W.plainOver K C = true) (h_cl4 : PySem.W.findIn K (.ref C) "__setattr__" = some (some (.builtin "object.__setattr__"))) (h_cC : PySem.W.nsIn K mainGlobals "Contents" = some (some (.ref C))) (h_cls_ : PySem.W.findIn K (.ref C) "__class__" = some (some (.builtin "object.__class__"))) (h_cgt : PySem.W.specialIn K (.builtin "object.__class__") "__get__" = some (some (.builtin "getset_descriptor.__get__"))) (h_ctk : PySem.W.takesIn K (.builtin "object.__class__") = some true) (h_mro : PySem.W.mroIn K C (.type "object") = some true) (h_ne : PySem.W.findIn K (.ref C) "__ne__" = some (some (.builtin "object.__ne__"))) (h_kCC : PySem.W.kitOne K (.ref C) (.ref C) = some true) (h_kN : PySem.W.kitOne K (.type "NoneType") (.ref C) = some false) (h_kI : PySem.W.kitOne K (.type "int") (.ref C) = some false) (h_kS : PySem.W.kitOne K (.type "str") (.ref C) = some false) (h_kL : PySem.W.kitOne K (.type "list") (.ref C) = some false) (h_kT : PySem.W.kitOne K (.type "tuple") (.ref C) = some false) (h_kD : PySem.W.kitOne K (.type "dict") (.ref C) = some false) (h_oCC : PySem.W.notFirst K C (.ref C) = true) (h_oN : PySem.W.notFirst K C (.type "NoneType") = true) (h_oI : PySem.W.notFirst K C (.type "int") = true) (h_oS : PySem.W.notFirst K C (.type "str") = true) (h_oL : PySem.W.notFirst K C (.type "list") = true) (h_oT : PySem.W.notFirst K C (.type "tuple") = true) (h_oD : PySem.W.notFirst K C (.type "dict") = true) (h_nu : PySem.W.findIn K (.ref C) "_uses" = some none) (h_nv : PySem.W.findIn K (.ref C) "_vouchers" = some none) (h_nn : PySem.W.findIn K (.ref C) "_needed" = some none) (h_ns : PySem.W.findIn K (.ref C) "_signers" = some none) : K09C.CTx K mg C :=
  ⟨⟨h_cl1, h_cl2, h_cl3, h_cl4⟩, PySem.W.mg_of X G h_cC, h_cls_, h_cgt, h_ctk, h_mro, h_ne, h_kCC, h_kN, h_kI, h_kS, h_kL, h_kT, h_kD, h_oCC, h_oN, h_oI, h_oS, h_oL, h_oT, h_oD, h_nu, h_nv, h_nn, h_ns⟩
theorem TxP_of {K : PySem.W.Frag} {mg : Str → Option Value} {h : Heap} {t_gMOST_EDITIONS : Tok} (X : K.In h) (G : h.Ns mainGlobals mg) (h_g_LAST_MOMENT : ∃ u, mg "_LAST_MOMENT" = some u ∧ L2.RelV (.int 10000000000000000000000000000000000000000) u) (h_gMOST_EDITIONS : PySem.W.nsIn K mainGlobals "MOST_EDITIONS" = some (some (.int 7 t_gMOST_EDITIONS))) (h_b_isinstance : PySem.W.nsIn K mainGlobals "isinstance" = some none) (h_b_tuple : PySem.W.nsIn K mainGlobals "tuple" = some none) (h_b_list : PySem.W.nsIn K mainGlobals "list" = some none) (h_b_len : PySem.W.nsIn K mainGlobals "len" = some none) (h_b_enumerate : PySem.W.nsIn K mainGlobals "enumerate" = some none) (h_b_range : PySem.W.nsIn K mainGlobals "range" = some none) (h_b_zip : PySem.W.nsIn K mainGlobals "zip" = some none) (h_b_max : PySem.W.nsIn K mainGlobals "max" = some none) (h_b_min : PySem.W.nsIn K mainGlobals "min" = some none) (h_b_repr : PySem.W.nsIn K mainGlobals "repr" = some none) : TxP K mg :=
  ⟨(by rw [LM_eq]; exact h_g_LAST_MOMENT), ⟨_, PySem.W.mg_of X G h_gMOST_EDITIONS, t_gMOST_EDITIONS, rfl⟩, PySem.W.mg_none_of X G h_b_isinstance, PySem.W.mg_none_of X G h_b_tuple, PySem.W.mg_none_of X G h_b_list, PySem.W.mg_none_of X G h_b_len, PySem.W.mg_none_of X G h_b_enumerate, PySem.W.mg_none_of X G h_b_range, PySem.W.mg_none_of X G h_b_zip, PySem.W.mg_none_of X G h_b_max, PySem.W.mg_none_of X G h_b_min, PySem.W.mg_none_of X G h_b_repr⟩
theorem PTx_of {K : PySem.W.Frag} {mg : Str → Option Value} {PC : Addr} {h : Heap} (X : K.In h) (G : h.Ns mainGlobals mg) (h_cl1 : PySem.W.plainGet K PC Str.empty = true) (h_cl2 : PySem.W.hasDictIn K PC = true) (h_cl3 : PySem.W.plainOver K PC = true) (h_cl4 : PySem.W.findIn K (.ref PC) "__setattr__" = some (some (.builtin "object.__setattr__"))) (h_cPlan : PySem.W.nsIn K mainGlobals "Plan" = some (some (.ref PC))) (h_ne : PySem.W.findIn K (.ref PC) "_editions" = some none) : PTx K mg PC :=
  ⟨⟨h_cl1, h_cl2, h_cl3, h_cl4⟩, PySem.W.mg_of X G h_cPlan, h_ne⟩
theorem PEx_of {K : PySem.W.Frag} {PC : Addr} {h : Heap} {mg : Str → Option Value} (X : K.In h) (G : h.Ns mainGlobals mg) (h_cls_ : PySem.W.findIn K (.ref PC) "__class__" = some (some (.builtin "object.__class__"))) (h_cgt : PySem.W.specialIn K (.builtin "object.__class__") "__get__" = some (some (.builtin "getset_descriptor.__get__"))) (h_ctk : PySem.W.takesIn K (.builtin "object.__class__") = some true) (h_mro : PySem.W.mroIn K PC (.type "object") = some true) (h_ne : PySem.W.findIn K (.ref PC) "__ne__" = some (some (.builtin "object.__ne__"))) (h_kCC : PySem.W.kitOne K (.ref PC) (.ref PC) = some true) (h_oCC : PySem.W.notFirst K PC (.ref PC) = true) : PEx K PC :=
  ⟨h_cls_, h_cgt, h_ctk, h_mro, h_ne, h_kCC, h_oCC⟩
theorem TstQ_of {K : PySem.W.Frag} {PC : Addr} {h : Heap} {mg : Str → Option Value} (X : K.In h) (G : h.Ns mainGlobals mg) (h_kLP : PySem.W.kitOne K (.type "list") (.ref PC) = some false) (h_oLP : PySem.W.notFirst K PC (.type "list") = true) : TstQ K PC :=
  ⟨h_kLP, h_oLP⟩
theorem PGx_of {K : PySem.W.Frag} {PC : Addr} {h : Heap} {g_fn : Addr} {mg : Str → Option Value} (X : K.In h) (G : h.Ns mainGlobals mg) (h_fn1 : PySem.W.findIn K (.ref PC) "__getitem__" = some (some (.ref g_fn))) (h_fn2 : PySem.W.fnIn K g_fn = true) : PGx K PC :=
  ⟨fun x e => by rw [h_fn1] at e; cases e; exact h_fn2⟩
theorem TstD_of {K : PySem.W.Frag} {PC : Addr} {CE : Addr} {CP : Addr} {CO : Addr} {h : Heap} {mg : Str → Option Value} (X : K.In h) (G : h.Ns mainGlobals mg) (h_ns : PySem.W.noSeq K PC = true) (h_xPE : PySem.W.exmOne K (.ref CP) (.ref CE) = some false) (h_xOE : PySem.W.exmOne K (.ref CO) (.ref CE) = some false) (h_xOP : PySem.W.exmOne K (.ref CO) (.ref CP) = some false) : TstD K PC CE CP CO :=
  ⟨h_ns, h_xPE, h_xOE, h_xOP⟩
theorem TstG_of {K : PySem.W.Frag} {mg : Str → Option Value} {CM : Addr} {CG : Addr} {h : Heap} (X : K.In h) (G : h.Ns mainGlobals mg) (h_gG : PySem.W.nsIn K mainGlobals "GapError" = some (some (.ref CG))) (h_kMG : PySem.W.kitOne K (.ref CM) (.ref CG) = some true) : TstG K mg CM CG :=
  ⟨PySem.W.mg_of X G h_gG, h_kMG⟩
abbrev kws_NN : List (Str × V) := [("needed", .int 1), ("signers", .non)]
theorem Ini_NN {K : PySem.W.Frag} {C D : Addr} {qual : Str} {st : Stmt} {f : Addr} {oc : Value} {od an : Option Addr} {osl : Array (Option Value)} {doc pm cdv ct : Value} {tk0 : Tok}
    (a : PySem.W.findIn K (.ref C) "__init__" = some (some (.ref f))) (i : PySem.W.isFn K (.ref f) = true) (l : K.lookup f = some ⟨oc, od, .func (PySem.W.fnOf "__init__" qual (defArgs st) (defBody st) (defScope st) .none (.ref D) doc pm an cdv ct), osl⟩)
    (c : PySem.W.codeIn K cdv qual = true) (k : PySem.W.keepIn K (.ref f) = true) (d0 : PySem.W.nsIn K D "needed" = some (some (.int 1 tk0))) (d1 : PySem.W.nsIn K D "signers" = some (some .none)) : IniK K C qual st kws_NN :=
  IniK.of a i l c k (.inr ⟨D, rfl, fun q hq => by
    simp only [kws_NN, List.mem_cons, List.not_mem_nil, or_false] at hq
    rcases hq with rfl | rfl
    · exact ⟨(.int 1 tk0), d0, tk0, rfl⟩
    · exact ⟨.none, d1, rfl⟩⟩)
def FinT : Prop := ∀ {P : Program} {w : World} {K : PySem.W.Frag} {mg : Str → Option Value} {fa C PC CI CO CM CE CP CG : Addr} (hfa : mg "law" = some (.ref fa)) (TC : K09C.Txt K mg) (J : K09C.CTx K mg C) (TP : TxP K mg) (PT : PTx K mg PC) (PE2 : PEx K PC) (W8 : TstQ K PC) (W6 : PGx K PC) (W9 : TstD K PC CE CP CO) (W7 : TstG K mg CM CG) (m1 : PySem.W.makesIn K C = true) (m2 : PySem.W.keepIn K (.ref C) = true) (m9 : PySem.W.makesIn K PC = true) (m10 : PySem.W.keepIn K (.ref PC) = true) (XI : K09F.ExnQ K mg "InvalidContents" CI "InvalidContents.__init__" K09C.s_InvalidContents_init "part") (XO : K09F.ExnQ K mg "LimitExceeded" CO "LimitExceeded.__init__" K09F.s_LimitExceeded_init "limit") (XM : K09F.ExnQ K mg "InvalidMoment" CM "InvalidMoment.__init__" K09F.s_InvalidMoment_init "value") (XE : K09F.ExnQ K mg "UnknownEdition" CE "UnknownEdition.__init__" s_UnknownEdition_init "number") (XP : K09F.ExnQ K mg "InvalidPlan" CP "InvalidPlan.__init__" s_InvalidPlan_init "number") (NN : IniK K C "Contents.__init__" K09C.s_Contents_init kws_NN) (d1 : DefK K mg "is_integer" K09C.s_is_integer) (d2 : DefK K mg "is_word" K09C.s_is_word) (d3 : DefK K mg "are_different_keys" K09C.s_are_different_keys) (d4 : DefK K mg "_is_use" K09C.s_is_use) (d5 : DefK K mg "_are_roles" K09C.s_are_roles) (d6 : DefK K mg "_wrong_part" K09C.s_wrong_part) (d7 : DefK K mg "_in_order" K09C.s_in_order) (d8 : PrpK K C "roles" "Contents.roles" K09C.s_Contents_roles) (d9 : DefK K mg "_law_stream" K09C.s_law_stream) (d10 : DefK K mg "_law_draw" K09C.s_law_draw) (d11 : DefK K mg "_law_choose" K09C.s_law_choose) (d12 : DefK K mg "_law_some" K09C.s_law_some) (d13 : DefK K mg "_law_words" K09C.s_law_words) (d14 : DefK K mg "_law_told" K09C.s_law_told) (d15 : DefK K mg "_law_turned" K09C.s_law_turned) (d16 : DefK K mg "_law_next" K09C.s_law_next) (d17 : DefK K mg "_law_tolds" K09C.s_law_tolds) (d18 : DefK K mg "_law_contents" K09C.s_law_contents) (d19 : MetK K C "__eq__" "Contents.__eq__" K09C.s_Contents_eq) (d20 : DefK K mg "is_between" s_is_between) (d21 : DefK K mg "is_moment" s_is_moment) (d22 : DefK K mg "is_index" s_is_index) (d23 : DefK K mg "is_tuple_of" s_is_tuple_of) (d24 : DefK K mg "_is_edition" s_is_edition) (d25 : DefK K mg "_first_wrong" s_first_wrong) (d26 : MetK K PC "__init__" "Plan.__init__" s_Plan_init) (d27 : MetK K PC "__len__" "Plan.__len__" s_Plan_len) (d28 : MetK K PC "_check" "Plan._check" s_Plan_check) (d29 : MetK K PC "moment_of" "Plan.moment_of" s_Plan_moment_of) (d30 : MetK K PC "contents_of" "Plan.contents_of" s_Plan_contents_of) (d31 : MetK K PC "moments" "Plan.moments" s_Plan_moments) (d32 : MetK K PC "__getitem__" "Plan.__getitem__" s_Plan_getitem) (d33 : MetK K PC "__setitem__" "Plan.__setitem__" s_Plan_setitem) (d34 : MetK K PC "__eq__" "Plan.__eq__" s_Plan_eq) (d35 : MetK K PC "current" "Plan.current" s_Plan_current) (d36 : MetK K PC "add" "Plan.add" s_Plan_add) (d37 : MetK K PC "drop" "Plan.drop" s_Plan_drop) (d38 : MetK K PC "twin" "Plan.twin" s_Plan_twin) (d39 : MetK K PC "cut" "Plan.cut" s_Plan_cut) (d40 : DefK K mg "_law_moments" s_law_moments) (d41 : DefK K mg "_law_is_right" s_law_is_right) (d42 : DefK K mg "_law_good" s_law_good) (d43 : DefK K mg "_law_step" s_law_step) (d44 : DefK K mg "_law_done" s_law_done) (d45 : DefK K mg "_law_current_refused" s_law_current_refused) (d46 : DefK K mg "law" s_law), ∃ fd : FuncData, (∀ (s : Shared) (v : Value), BindsTo s fd ⟨[v], []⟩ [("script", v)]) ∧ ∀ base : Heap, K.In base → base.Ns mainGlobals mg → FnG P w K mg base CX0 12 fa fd ["script"] (spLaw K)
theorem walk {l : PySem.W.OpenLaw} {q : Program} {loose : List Str} {XP : (Str → Option Value) → Heap → Prop} {YP : World → Heap → Prop} {d : DefRec} {K : Params → PySem.W.Frag} (hn : l.most = some 63) (hdf : d.params.defaults = [])
    (hY : ∀ (w : World) (h : Heap), YP w h → (K w.params).In h)
    (F : ∀ (w : World) (mg : Str → Option Value) (fa : Addr) (h : Heap), (K w.params).In h → h.Ns mainGlobals mg → mg d.name = some (.ref fa) → XP mg h →
      ∃ fd : FuncData, (∀ (s : Shared) (u : Value), BindsTo s fd ⟨[u], []⟩ [("script", u)]) ∧ ∀ base : Heap, (K w.params).In base → base.Ns mainGlobals mg → FnG l.prog w (K w.params) mg base CX0 12 fa fd ["script"] (spLaw (K w.params))) :
    PySem.W.WalkO q loose XP YP l.row.toRowW d [] (fun f vs => PySem.call f vs) :=
  walk_ofG (n := 63) (k := 12) (x := "script") (CX := fun _ => CX0) (sp := fun w => spLaw (K w.params)) hn (by decide) hdf ⟨rfl, by decide, by decide⟩ hY F (fun _ _ a ns hl _ hS => ⟨a, ns, rfl, hS, hl, fun _ => rfl⟩) fun _ _ _ _ _ z => z
end K09
section HeadF
open PySem PySem.W PyProof.Rows
local macro_rules | `(tactic| walk_at "dk") => `(tactic| (refine' Jg.DefK.of (by assumption) (by assumption) ?a ?l ?c ?k; (case a => k_is); (case l => k_is); (case c => k_is); (case k => k_is)))
local macro_rules | `(tactic| walk_at "mk") => `(tactic| (refine' Jg.MetK.of ?a ?i ?l ?c ?k; (case a => k_is); (case i => k_is); (case l => k_is); (case c => k_is); (case k => k_is)))
local macro_rules | `(tactic| walk_at "pk") => `(tactic| (refine' Jg.PrpK.of ?a ?g ?tk ?rc ?l ?c ?k; (case a => k_is); (case g => k_is); (case tk => k_is); (case rc => k_is); (case l => k_is); (case c => k_is); (case k => k_is)))
local macro_rules | `(tactic| walk_at "ck") => `(tactic| (refine' Jg.CmtK.of ?rd ?ga ?a ?rc ?fi ?l ?c ?k; (case rd => k_is); (case ga => k_is); (case a => k_is); (case rc => k_is); (case fi => k_is); (case l => k_is); (case c => k_is); (case k => k_is)))
local macro_rules | `(tactic| o_head ($_f:ident $K $as $e)) => `(tactic| o_head (Jg.pHook $K $as $e () ()))
local macro_rules | `(tactic| o_head ($_f:ident $K $as $e $ts)) => `(tactic| o_head (Jg.pmHook $K $as $e $ts ()))
local macro_rules | `(tactic| refine $f:ident ($n:ident := $q) $args*) => `(tactic| (have fin9 : K09.FinT := (by assumption); refine ($f:ident ($n:ident := $q) $args*)))
def PySem.W.Fast.tw4557137877174028835 : Unit := ()
def PySem.W.Fast.tw1969281621530492389 : Unit := ()
def PySem.W.Fast.tw9737742608902069067 : Unit := ()
def PySem.W.Fast.tw2176279808571936688 : Unit := ()
def PySem.W.Fast.tw7367851248448622648 : Unit := ()
def PySem.W.Fast.tw13149455301949044941 : Unit := ()
def PySem.W.Fast.tw4159141231018952599 : Unit := ()
def PySem.W.Fast.tw16140962503598474594 : Unit := ()
def PySem.W.Fast.tw16724097040142931428 : Unit := ()
def PySem.W.Fast.tw10519508580115240592 : Unit := ()
def PySem.W.Fast.tw12193350963500675047 : Unit := ()
def PySem.W.Fast.tw181039901940807742 : Unit := ()
def PySem.W.Fast.tw876908536892438208 : Unit := ()
def PySem.W.Fast.tw1480661310782267435 : Unit := ()
def PySem.W.Fast.tw13614989370747142299 : Unit := ()
def PySem.W.Fast.tw13332193823251832067 : Unit := ()
def PySem.W.Fast.tw141654204982941145 : Unit := ()
def PySem.W.Fast.tw7859912955670298737 : Unit := ()
def PySem.W.Fast.tw6337315232706716569 : Unit := ()
set_option maxRecDepth 100000 in
set_option maxHeartbeats 0 in
theorem K09.head0 (FIN : K09.FinT) : PySem.Challenge.rw_gaplesskeys_k09_plans_edited.Holds := by
  w_on; o_law; k_head; (case hw => w_witness2)
  k_fill
  refine K09.walk (l := PySem.Challenge.rw_gaplesskeys_k09_plans_edited) rfl rfl (fun w h Y => Jg.p_in_of Y) ?F
  case F =>
    intro w mg fa h KX G hmg XP
    have FIN : K09.FinT := by assumption
    refine' FIN hmg ?TC ?J ?TP ?PT ?PE2 ?W8 ?W6 ?W9 ?W7 ?m1 ?m2 ?m9 ?m10 ?XI ?XO ?XM ?XE ?XP ?NN ?d1 ?d2 ?d3 ?d4 ?d5 ?d6 ?d7 ?d8 ?d9 ?d10 ?d11 ?d12 ?d13 ?d14 ?d15 ?d16 ?d17 ?d18 ?d19 ?d20 ?d21 ?d22 ?d23 ?d24 ?d25 ?d26 ?d27 ?d28 ?d29 ?d30 ?d31 ?d32 ?d33 ?d34 ?d35 ?d36 ?d37 ?d38 ?d39 ?d40 ?d41 ?d42 ?d43 ?d44 ?d45 ?d46
    case TC =>
      refine' K09.K09C_Txt_of KX G ?TCb_isinstance ?TCb_int ?TCb_bool ?TCb_str ?TCb_list ?TCb_tuple ?TCb_dict ?TCb_len ?TCb_all ?TCb_any ?TCb_set ?TCb_sorted ?TCb_max ?TCb_min ?TCb_range ?TCb_repr ?TCb_sum ?TCg_MOST_ROLES ?TCg_MOST_ACCEPTED ?TCg_MOST_VOUCHERS ?TCg_MOST_NEEDED
      (case TCg_MOST_ROLES => k_is)
      (case TCg_MOST_ACCEPTED => k_is)
      (case TCg_MOST_VOUCHERS => k_is)
      (case TCg_MOST_NEEDED => k_is)
      all_goals (first | k_is | kit_is | rfl)
    case J =>
      refine' K09.K09C_CTx_of KX G ?Jcl1 ?Jcl2 ?Jcl3 ?Jcl4 ?JcC ?Jcls_ ?Jcgt ?Jctk ?Jmro ?Jne ?JkCC ?JkN ?JkI ?JkS ?JkL ?JkT ?JkD ?JoCC ?JoN ?JoI ?JoS ?JoL ?JoT ?JoD ?Jnu ?Jnv ?Jnn ?Jns
      (case JcC => k_is)
      all_goals (first | k_is | kit_is | rfl)
    case TP =>
      refine' K09.TxP_of KX G ?TPg_LAST_MOMENT ?TPgMOST_EDITIONS ?TPb_isinstance ?TPb_tuple ?TPb_list ?TPb_len ?TPb_enumerate ?TPb_range ?TPb_zip ?TPb_max ?TPb_min ?TPb_repr
      (case TPg_LAST_MOMENT => first | exact Jg.loose_int XP (List.Mem.head _) | exact Jg.loose_int XP (List.Mem.tail _ (List.Mem.head _)) | exact Jg.loose_int XP (List.Mem.tail _ (List.Mem.tail _ (List.Mem.head _))))
      (case TPgMOST_EDITIONS => k_is)
      all_goals (first | k_is | kit_is | rfl)
    case PT =>
      refine' K09.PTx_of KX G ?PTcl1 ?PTcl2 ?PTcl3 ?PTcl4 ?PTcPlan ?PTne
      (case PTcPlan => k_is)
      all_goals (first | k_is | kit_is | rfl)
    case PE2 =>
      refine' K09.PEx_of KX G ?PE2cls_ ?PE2cgt ?PE2ctk ?PE2mro ?PE2ne ?PE2kCC ?PE2oCC
      all_goals (first | k_is | kit_is | rfl)
    case W8 =>
      refine' K09.TstQ_of KX G ?W8kLP ?W8oLP
      all_goals (first | k_is | kit_is | rfl)
    case W6 =>
      refine' K09.PGx_of KX G ?W6fn1 ?W6fn2
      (case W6fn1 => k_is)
      all_goals (first | k_is | kit_is | rfl)
    (case m1 => k_is); (case m2 => k_is)
    (case m9 => k_is); (case m10 => k_is)
    case XI =>
      refine' K09.ExnF_of KX G PySem.F.excBase_ValueError PySem.F.store_ValueError ?XXIaI ?XXIxI ?XXIxO ?XXIsa ?XXIexC ?XXItyC ?XXIkC ?XXIga ?XXIgg ?XXIhdC ?XXIha ?XXIhn ?XXIht ?XXIhm ?XXIno ?XXIiI ?XXItI ?XXIl ?XXIc ?XXIk ?XXIsC
      (case XXIaI => k_is); (case XXIxI => first | decide +kernel | rfl); (case XXIxO => first | decide +kernel | rfl); (case XXIsa => k_is); (case XXIexC => k_is); (case XXItyC => k_is); (case XXIkC => k_is); (case XXIga => k_is); (case XXIgg => k_is); (case XXIhdC => k_is); (case XXIha => k_is); (case XXIhn => k_is); (case XXIht => k_is); (case XXIhm => k_is)
      (case XXIno => k_is); (case XXIiI => k_is); (case XXItI => k_is); (case XXIl => k_is); (case XXIc => k_is); (case XXIk => k_is); (case XXIsC => first | rfl | k_is)
    case XO =>
      refine' K09.ExnF_of KX G PySem.F.excBase_OverflowError PySem.F.store_OverflowError ?XXOaI ?XXOxI ?XXOxO ?XXOsa ?XXOexC ?XXOtyC ?XXOkC ?XXOga ?XXOgg ?XXOhdC ?XXOha ?XXOhn ?XXOht ?XXOhm ?XXOno ?XXOiI ?XXOtI ?XXOl ?XXOc ?XXOk ?XXOsC
      (case XXOaI => k_is); (case XXOxI => first | decide +kernel | rfl); (case XXOxO => first | decide +kernel | rfl); (case XXOsa => k_is); (case XXOexC => k_is); (case XXOtyC => k_is); (case XXOkC => k_is); (case XXOga => k_is); (case XXOgg => k_is); (case XXOhdC => k_is); (case XXOha => k_is); (case XXOhn => k_is); (case XXOht => k_is); (case XXOhm => k_is)
      (case XXOno => k_is); (case XXOiI => k_is); (case XXOtI => k_is); (case XXOl => k_is); (case XXOc => k_is); (case XXOk => k_is); (case XXOsC => first | rfl | k_is)
    case XM =>
      refine' K09.ExnF_of KX G PySem.F.excBase_ValueError PySem.F.store_ValueError ?XXMaI ?XXMxI ?XXMxO ?XXMsa ?XXMexC ?XXMtyC ?XXMkC ?XXMga ?XXMgg ?XXMhdC ?XXMha ?XXMhn ?XXMht ?XXMhm ?XXMno ?XXMiI ?XXMtI ?XXMl ?XXMc ?XXMk ?XXMsC
      (case XXMaI => k_is); (case XXMxI => first | decide +kernel | rfl); (case XXMxO => first | decide +kernel | rfl); (case XXMsa => k_is); (case XXMexC => k_is); (case XXMtyC => k_is); (case XXMkC => k_is); (case XXMga => k_is); (case XXMgg => k_is); (case XXMhdC => k_is); (case XXMha => k_is); (case XXMhn => k_is); (case XXMht => k_is); (case XXMhm => k_is)
      (case XXMno => k_is); (case XXMiI => k_is); (case XXMtI => k_is); (case XXMl => k_is); (case XXMc => k_is); (case XXMk => k_is); (case XXMsC => first | rfl | k_is)
    case XE =>
      refine' K09.ExnF_of KX G PySem.F.excBase_LookupError PySem.F.store_LookupError ?XXEaI ?XXExI ?XXExO ?XXEsa ?XXEexC ?XXEtyC ?XXEkC ?XXEga ?XXEgg ?XXEhdC ?XXEha ?XXEhn ?XXEht ?XXEhm ?XXEno ?XXEiI ?XXEtI ?XXEl ?XXEc ?XXEk ?XXEsC
      (case XXEaI => k_is); (case XXExI => first | decide +kernel | rfl); (case XXExO => first | decide +kernel | rfl); (case XXEsa => k_is); (case XXEexC => k_is); (case XXEtyC => k_is); (case XXEkC => k_is); (case XXEga => k_is); (case XXEgg => k_is); (case XXEhdC => k_is); (case XXEha => k_is); (case XXEhn => k_is); (case XXEht => k_is); (case XXEhm => k_is)
      (case XXEno => k_is); (case XXEiI => k_is); (case XXEtI => k_is); (case XXEl => k_is); (case XXEc => k_is); (case XXEk => k_is); (case XXEsC => first | rfl | k_is)
    case XP =>
      refine' K09.ExnF_of KX G PySem.F.excBase_ValueError PySem.F.store_ValueError ?XXPaI ?XXPxI ?XXPxO ?XXPsa ?XXPexC ?XXPtyC ?XXPkC ?XXPga ?XXPgg ?XXPhdC ?XXPha ?XXPhn ?XXPht ?XXPhm ?XXPno ?XXPiI ?XXPtI ?XXPl ?XXPc ?XXPk ?XXPsC
      (case XXPaI => k_is); (case XXPxI => first | decide +kernel | rfl); (case XXPxO => first | decide +kernel | rfl); (case XXPsa => k_is); (case XXPexC => k_is); (case XXPtyC => k_is); (case XXPkC => k_is); (case XXPga => k_is); (case XXPgg => k_is); (case XXPhdC => k_is); (case XXPha => k_is); (case XXPhn => k_is); (case XXPht => k_is); (case XXPhm => k_is)
      (case XXPno => k_is); (case XXPiI => k_is); (case XXPtI => k_is); (case XXPl => k_is); (case XXPc => k_is); (case XXPk => k_is); (case XXPsC => first | rfl | k_is)
    case NN =>
      refine' K09.Ini_NN ?NNNa ?NNNi ?NNNl ?NNNc ?NNNk ?NNNd0 ?NNNd1
      (case NNNa => k_is); (case NNNi => k_is); (case NNNl => k_is); (case NNNc => k_is); (case NNNk => k_is); (case NNNd0 => k_is); (case NNNd1 => k_is)
    case W9 =>
      refine' K09.TstD_of KX G ?W9ns ?W9xPE ?W9xOE ?W9xOP
      all_goals (first | k_is | kit_is | rfl)
    case W7 =>
      refine' K09.TstG_of KX G ?W7gG ?W7kMG
      (case W7gG => k_is)
      all_goals (first | k_is | kit_is | rfl)
    (case d1 => walk_at "dk")
    (case d2 => walk_at "dk")
    (case d3 => walk_at "dk")
    (case d4 => walk_at "dk")
    (case d5 => walk_at "dk")
    (case d6 => walk_at "dk")
    (case d7 => walk_at "dk")
    (case d8 => walk_at "pk")
    (case d9 => walk_at "dk")
    (case d10 => walk_at "dk")
    (case d11 => walk_at "dk")
    (case d12 => walk_at "dk")
    (case d13 => walk_at "dk")
    (case d14 => walk_at "dk")
    (case d15 => walk_at "dk")
    (case d16 => walk_at "dk")
    (case d17 => walk_at "dk")
    (case d18 => walk_at "dk")
    (case d19 => walk_at "mk")
    (case d20 => walk_at "dk")
    (case d21 => walk_at "dk")
    (case d22 => walk_at "dk")
    (case d23 => walk_at "dk")
    (case d24 => walk_at "dk")
    (case d25 => walk_at "dk")
    (case d26 => walk_at "mk")
    (case d27 => walk_at "mk")
    (case d28 => walk_at "mk")
    (case d29 => walk_at "mk")
    (case d30 => walk_at "mk")
    (case d31 => walk_at "mk")
    (case d32 => walk_at "mk")
    (case d33 => walk_at "mk")
    (case d34 => walk_at "mk")
    (case d35 => walk_at "mk")
    (case d36 => walk_at "mk")
    (case d37 => walk_at "mk")
    (case d38 => walk_at "mk")
    (case d39 => walk_at "mk")
    (case d40 => walk_at "dk")
    (case d41 => walk_at "dk")
    (case d42 => walk_at "dk")
    (case d43 => walk_at "dk")
    (case d44 => walk_at "dk")
    (case d45 => walk_at "dk")
    (case d46 => walk_at "dk")
end HeadF
set_option Elab.async false
set_option linter.all false
set_option maxRecDepth 100000
set_option maxHeartbeats 4000000
namespace Jg
open PySem PySem.Spec PyProof.Rows L2
end Jg
namespace Jg
open PySem PySem.Spec PyProof.Rows L2
section
variable {X : Cx} {CX : CXT} {k : Nat} {f : Addr} {fd : FuncData} {ps : List Str} {sp : Sp} {dvs : List V} {ds : List Value} {E : XK} {x : Str} {p pos : Pos} {e : Expr} {es : List Expr} {t : TA}
theorem run_fnG {pins : List (Addr × Obj)} {σ : L2.St} {H : Hp} {s : Shared} {Q : VK} {us : List Value} {vs : List V} (F : FnG X.prog X.w X.K X.mg X.base CX k f fd ps sp) (g : X.A.guards = some []) (hr : Room k X.A) (hb : Binds X.K fd ps ds) (hd : Vals dvs ds) (hx : Passes CX X E)
    (I : Inv X pins σ H s) (r : Vals vs us) (h : sp (vs ++ dvs) H Q E) : wpAny (model X.prog X.w) X.A (call (.ref f) us) (EP X pins σ Q) X.xe s := by
  have both := r.append hd
  have hl : (us ++ ds).length = ps.length := both.length.symm.trans (F.len _ _ _ _ h)
  have go := F.run X.A g X.stack s H ⟨us, []⟩ (us ++ ds) (vs ++ dvs) Q E hr I.env0 (hb s us I.kIn hl) both h
  refine wpAny_call (codeAny_mono go fun r s' hq => ?_)
  match r, hq with
  | .error e, hq => exact hx pins σ H s e s' I hq
  | .ok (.ret u), hq => exact I.after hq
/-- f(e, ..) -/
theorem pe_callG (F : FnG X.prog X.w X.K X.mg X.base CX k f fd ps sp) (g : X.A.guards = some []) (hr : Room k X.A) (hg : Gl X x) (hm : X.mg x = some (.ref f)) (hk : PySem.W.keepIn X.K (.ref f) = true) (hb : Binds X.K fd ps ds) (hd : Vals dvs ds) (hx : Passes CX X E)
    (ha : PA X (e :: es) t) (hdb : (x == ("__debug__" : Str)) = false := by decide) (he : starEach (e :: es) X.env = (false, eval e X.env) :: starEach es X.env := by rfl) (hpl : (backTo pos (starEach es X.env)).any (·.1) = false := by rfl) :
    PE X (.Call (.Name x p) (e :: es) [] pos) (tCall sp dvs E t) :=
  ⟨fun pins s σ H Q I h => wpAny_Call_Name_kw (ld_glob I hg hm (PySem.W.callWith_K (h₀ := X.base) I.ok.mod.kin hk (thn (ha.run pos pins s σ H _ I h) fun _ _ ⟨_, _, I1, r, q⟩ => ⟨I1.kIn, run_fnG F g hr hb hd hx I1 r q⟩) he hpl) hdb)⟩
end
theorem guards_deeper {A : Around} {e : Env} (h : A.guards = some []) : (A.deeper e).guards = some [] := by
  first | exact h | (unfold Around.deeper; simpa using h)
section
variable {P : Program} {w : World} {K : PySem.W.Frag} {mg : Str → Option Value} {base : Heap}
/-- a def of the text, its body walked where no repr is under way -/
theorem fnG_of {CX : CXT} {k : Nat} {x qual : Str} {st : Stmt} {f : Addr} {fd : FuncData} {N ps : List Str} {sp : Sp} (F : Fun K x qual st f fd) (S : FnScope N ps (defScope st)) (len : ∀ vs H Q E, sp vs H Q E → vs.length = ps.length)
    (hbody : ∀ (cdv : Value) (A : Around) (outer : List Env) (s : Shared) (H : Hp) (vs : List V) (Q : VK) (E : XK), A.guards = some [] → Room k (A.deeper (envOfC qual (defScope st) s.heap.objs.size f cdv)) → sp vs H Q E →
      ∃ t, PSs (cxOf CX P w K mg base N qual (defScope st) f cdv A outer s H E) (defBody st) t ∧ t { nx := fun _ H' => Q .non H', rt := Q } (start N vs) H) : FnG P w K mg base CX (k + 1) f fd ps sp := by
  obtain ⟨oc, od, kV, doc, pm, an, cdv, ct, osl, rfl, lk, hcd⟩ := F.ex
  refine ⟨len, fun A g outer s H args us vs Q E hr e0 hb r hsp => ?_⟩
  have inHeap : K.In s.heap := e0.mod.kin.keeps fun b o e => (e0.bs b o e).1
  have kinds : ∀ y ∈ ps.zip us, (defScope st).names.lookup y.1 = some .local ∨ ((defScope st).names.lookup y.1 = some .cell ∧ ((cellsFrom (s.heap.objs.size + 1) (defScope st).names []).lookup y.1).isSome = true) := fun y hy =>
    (S.par y.1 (List.of_mem_zip hy).1).imp id fun q => ⟨q, PySem.W.cellsFrom_some _ _ _ (.inl q)⟩
  refine codeAny_call_function hr.depth (inHeap _ _ lk) rfl S.co S.gen rfl (PySem.W.codeRec_of inHeap hcd) (hb _ _ _ _ ?_)
  refine wpAny_newFunctionEnv_cells S.kind kinds fun env he s1 y => ?_
  subst he
  obtain ⟨t, ht, hq⟩ := hbody cdv A outer s H vs Q E g (hr.deeper _) hsp
  have I := inv_start (CX := CX) (E := E) S hr.hd e0 (len _ _ _ _ hsp) r y
  refine ⟨(e0.mod.nolimit.keeps fun b o e => (e0.bs b o e).1).keeps y.toInCall.keep, codeAny_func (wpAny_mono (ht.run [] s1 (start N vs) H _ I hq) (fun fl s' hs => ?_) fun _ _ hs => hs)⟩
  match fl, hs with
  | .ret u, ⟨v, _, H', J, rv, q⟩ => exact ⟨v, H', J.os, J.bare, J.base, J.hok, rv, q⟩
  | .next, ⟨_, H', J, q⟩ => exact ⟨.non, H', J.os, J.bare, J.base, J.hok, rfl, q⟩
  | .brk, ⟨_, _, _, q⟩ => exact False.elim q
  | .cont, ⟨_, _, _, q⟩ => exact False.elim q
end
theorem noDict : ∀ (K : PySem.W.Frag) (H : Hp) (d : PyData) (v : V), Dp K H v d → d.hasDict = false := by
  intro K H d v h
  refine Dp.rec (motive_1 := fun _ d _ => d.hasDict = false) (motive_2 := fun _ ds _ => PyData.hasDictAll ds = false) ?_ ?_ ?_ ?_ ?_ ?_ ?_ ?_ h
  · rfl
  · intro b; rfl
  · intro i; rfl
  · intro x; rfl
  · intro a xs ds _ _ ih; exact ih
  · intro a xs ds _ _ ih; exact ih
  · rfl
  · intro v vs d ds _ _ h1 h2
    show (PyData.hasDict d || PyData.hasDictAll ds) = false
    rw [h1, h2]; rfl
end Jg
namespace Jg
open PySem PySem.Spec PyProof.Rows L2
theorem iteFe {A D : Prop} {b : Bool} (e : b = false) (h : D) : if b = true then A else D := by rw [e]; exact iteF h
theorem iteTe {A D : Prop} {b : Bool} (e : b = true) (h : A) : if b = true then A else D := by rw [e]; exact iteT h
section
variable (P : Program) (w : World) (K : PySem.W.Frag) (mg : Str → Option Value) (base : Heap) (CX : CXT) (k : Nat)
/-- a method of the class at C -/
structure Met (C : Addr) (m : Str) (sp : Sp) : Prop where
  ex : ∃ f fd ps, FnOk P w K mg base CX k f fd ps sp ∧ PySem.W.findIn K (.ref C) m = some (some (.ref f)) ∧ PySem.W.isFn K (.ref f) = true ∧ PySem.W.keepIn K (.ref f) = true ∧ Binds K fd ps []
structure Prp (C : Addr) (m : Str) (sp : Sp) : Prop where
  ex : ∃ p f fd ps, FnOk P w K mg base CX k f fd ps sp ∧ PropOf K C m p f ∧ Binds K fd ps []
end
/-- how a def of the text binds its arguments -/
def BindOk (x qual : Str) (st : Stmt) (ps : List Str) : Prop :=
  ∀ (kV doc pm : Value) (an : Option Addr) (cdv ct : Value) (us : List Value), us.length = ps.length → bindArgs (PySem.W.fnOf x qual (defArgs st) (defBody st) (defScope st) .none kV doc pm an cdv ct) ⟨us, []⟩ = pure (ps.zip us)
/-- what a body must show -/
def BodyOk (CX : CXT) (P : Program) (w : World) (K : PySem.W.Frag) (mg : Str → Option Value) (base : Heap) (N : List Str) (qual : Str) (st : Stmt) (f : Addr) (k : Nat) (sp : Sp) : Prop :=
  ∀ (cdv : Value) (A : Around) (outer : List Env) (s : Shared) (H : Hp) (vs : List V) (Q : VK) (E : XK), Room k (A.deeper (envOfC qual (defScope st) s.heap.objs.size f cdv)) → sp vs H Q E →
      ∃ t, PSs (cxOf CX P w K mg base N qual (defScope st) f cdv A outer s H E).nox (defBody st) t ∧ t { nx := fun _ H' => Q .non H', rt := Q } (start N vs) H
section
variable {P : Program} {w : World} {K : PySem.W.Frag} {mg : Str → Option Value} {base : Heap} {k : Nat} {C : Addr} {mc : Value} {x m qual : Str} {st : Stmt} {N ps : List Str} {sp : Sp}
theorem DefK.cal (D : DefK K mg x st) (S : FnScope N ps (defScope st)) (b : BindOk x x st ps) (len : ∀ vs H Q E, sp vs H Q E → vs.length = ps.length) (hb : ∀ f, BodyOk CX0 P w K mg base N x st f k sp) : Cal P w K mg base CX0 (k + 1) x sp :=
  let ⟨f, fd, F, m⟩ := D.ex
  ⟨f, fd, ps, F.ok S len (hb f), m, F.kp, F.binds b⟩
theorem DefK.calG (D : DefK K mg x st) (S : FnScope N ps (defScope st)) (b : BindOk x x st ps) (len : ∀ vs H Q E, sp vs H Q E → vs.length = ps.length)
    (hb : ∀ (f : Addr) (cdv : Value) (A : Around) (outer : List Env) (s : Shared) (H : Hp) (vs : List V) (Q : VK) (E : XK), (cxOf CX0 P w K mg base N x (defScope st) f cdv A outer s H E).nox.A.guards = some [] → Room k (A.deeper (envOfC x (defScope st) s.heap.objs.size f cdv)) → sp vs H Q E →
      ∃ t, PSs (cxOf CX0 P w K mg base N x (defScope st) f cdv A outer s H E).nox (defBody st) t ∧ t { nx := fun _ H' => Q .non H', rt := Q } (start N vs) H) : CalG P w K mg base CX0 (k + 1) x sp :=
  let ⟨f, fd, F, m⟩ := D.ex
  ⟨f, fd, ps, fnG_of F S len fun cdv A outer s H vs Q E g hr h =>
    let ⟨t, a, q⟩ := hb f cdv A outer s H vs Q E (guards_deeper g) hr h
    ⟨t, a.nox, q⟩, m, F.kp, F.binds b⟩
theorem MetK.met (D : MetK K C m qual st) (S : FnScope N ps (defScope st)) (b : BindOk m qual st ps) (len : ∀ vs H Q E, sp vs H Q E → vs.length = ps.length) (hb : ∀ f, BodyOk CX0 P w K mg base N qual st f k sp) : Met P w K mg base CX0 (k + 1) C m sp :=
  let ⟨f, fd, F, a, i⟩ := D.ex
  ⟨f, fd, ps, F.ok S len (hb f), a, i, F.kp, F.binds b⟩
theorem PrpK.prp (D : PrpK K C m qual st) (S : FnScope N ps (defScope st)) (b : BindOk m qual st ps) (len : ∀ vs H Q E, sp vs H Q E → vs.length = ps.length) (hb : ∀ f, BodyOk CX0 P w K mg base N qual st f k sp) : Prp P w K mg base CX0 (k + 1) C m sp :=
  let ⟨p, f, fd, F, a⟩ := D.ex
  ⟨p, f, fd, ps, F.ok S len (hb f), a, F.binds b⟩
end
section
variable {X : Cx} {k j : Nat} {C : Addr} {mc : Value} {x m : Str} {sp : Sp} {p pos apos : Pos} {e o : Expr} {es : List Expr} {ta : TE} {t : TA}
theorem pe_c (c : Cal X.prog X.w X.K X.mg X.base CX0 k x sp) (hr : Room j X.A) (hk : k ≤ j) (hg : Gl X x) (ha : PA X (e :: es) t)
    (hdb : (x == ("__debug__" : Str)) = false := by decide) (he : starEach (e :: es) X.env = (false, eval e X.env) :: starEach es X.env := by rfl) (hpl : (backTo pos (starEach es X.env)).any (·.1) = false := by rfl) :
    PE X (.Call (.Name x p) (e :: es) [] pos) (tCall sp [] E0 t) := by
  obtain ⟨f, fd, ps, F, hm, kp, b⟩ := c.ex
  exact pe_call F (hr.mono hk) hg hm kp b .nil pass0 ha hdb he hpl
theorem pe_cG (c : CalG X.prog X.w X.K X.mg X.base CX0 k x sp) (g : X.A.guards = some []) (hr : Room j X.A) (hk : k ≤ j) (hg : Gl X x) (ha : PA X (e :: es) t)
    (hdb : (x == ("__debug__" : Str)) = false := by decide) (he : starEach (e :: es) X.env = (false, eval e X.env) :: starEach es X.env := by rfl) (hpl : (backTo pos (starEach es X.env)).any (·.1) = false := by rfl) :
    PE X (.Call (.Name x p) (e :: es) [] pos) (tCall sp [] E0 t) := by
  obtain ⟨f, fd, ps, F, hm, kp, b⟩ := c.ex
  exact pe_callG F g (hr.mono hk) hg hm kp b .nil pass0 ha hdb he hpl
/-- a class that is made by its name -/
structure Mak (P : Program) (w : World) (K : PySem.W.Frag) (mg : Str → Option Value) (base : Heap) (CX : CXT) (k : Nat) (x : Str) (C : Addr) (sp : Sp) : Prop where
  mg_ : mg x = some (.ref C)
  mks : PySem.W.makesIn K C = true
  kp : PySem.W.keepIn K (.ref C) = true
  init : Met P w K mg base CX k C "__init__" sp
theorem pe_mk (c : Mak X.prog X.w X.K X.mg X.base CX0 k x C sp) (hr : Room j X.A) (hk : k + 1 ≤ j) (hg : Gl X x) (ha : PA X (e :: es) t)
    (hdb : (x == ("__debug__" : Str)) = false := by decide) (he : starEach (e :: es) X.env = (false, eval e X.env) :: starEach es X.env := by rfl) (hpl : (backTo pos (starEach es X.env)).any (·.1) = false := by rfl) :
    PE X (.Call (.Name x p) (e :: es) [] pos) (tMake C sp [] E0 t) := by
  obtain ⟨f, fd, ps, F, a, i, kp, b⟩ := c.init.ex
  exact pe_make ⟨c.mks, a, i, c.kp⟩ F (hr.mono hk) hg c.mg_ b .nil pass0 ha hdb he hpl
theorem pe_m {pl : Sem Bool} (c : Met X.prog X.w X.K X.mg X.base CX0 k C m sp) (cl : Cls X.K C) (hr : Room j X.A) (hk : k ≤ j) (he : PE X o ta) (ha : PA X (e :: es) t)
    (hst : starEach (e :: es) X.env = (false, eval e X.env) :: starEach es X.env := by rfl) (hpl : (backTo pos (starEach es X.env)).any (·.1) = false := by rfl)
    (ht : eval (.Call (.Attribute o m apos) (e :: es) [] pos) X.env = (do
      let ov ← eval o X.env
      standAt apos.atName
      let (f, first) ← holding [ov] (getMethod ov m pl)
      callWith pos f first (backTo pos (starEach (e :: es) X.env)) (backToKw pos (keywordEach [] X.env))) := by rfl) :
    PE X (.Call (.Attribute o m apos) (e :: es) [] pos) (tMeth C m sp [] E0 ta t) := by
  obtain ⟨f, fd, ps, F, a, i, kp, b⟩ := c.ex
  exact pe_meth (pl := pl) he cl ⟨a, i, kp⟩ F (hr.mono hk) b .nil pass0 ha hst hpl ht
theorem pe_p (c : Prp X.prog X.w X.K X.mg X.base CX0 k C m sp) (cl : Cls X.K C) (hr : Room j X.A) (hk : k + 1 ≤ j) (he : PE X o ta)
    (hab : attributeBase o m X.env (eval o X.env) = eval o X.env := by rfl) : PE X (.Attribute o m pos) (tProp C sp [] E0 ta) := by
  obtain ⟨q, f, fd, ps, F, a, b⟩ := c.ex
  exact pe_prop he cl a F (hr.mono hk) b .nil pass0 hab
/-- a name of the module, by its value; a built-in type by its name -/
theorem pe_gc {v : V} (hg : Gl X x) (h : ∃ u, X.mg x = some u ∧ L2.RelV v u) (hd : (x == ("__debug__" : Str)) = false := by decide) : PE X (.Name x pos) (tC v) := by
  obtain ⟨u, hm, r⟩ := h
  exact pe_glob hg hm r hd
theorem pe_ty {n : String} (hg : Gl X x) (hm : X.mg x = none) (hv : bootBuiltins x = some (.type n)) (hn : x ≠ "__name__" := by decide) (hd : (x == ("__debug__" : Str)) = false := by decide) : PE X (.Name x pos) (tC (.ty n)) :=
  pe_bltn (v := .ty n) (u := .type n) hg hm hv rfl hn hd
end
end Jg
namespace Jg
open PySem PySem.Spec PyProof.Rows L2
/-- the items from i on, k of them -/
def allF (f : Nat → Bool) : Nat → Nat → Bool
  | _, 0 => true
  | i, k + 1 => f i && allF f (i + 1) k
section
open PySem.SeqAt AutoSeq1 MeetsSeq MeetsSeq2 MeetsSeq3 SeqRoads2
variable {prog : Program} {w : World} {A : Around} {R : Result → Shared → Prop}
/-- two lists of one length that stand, with what their items answer -/
def StandL (prog : Program) (w : World) (A : Around) (E : Value → Shared → Prop) (l b : Addr) (N : Nat) (f : Nat → Bool) (I : Shared → Prop) : Prop :=
  ∀ s, I s → ∃ (u v : Array Value) (n m : Nat), s.heap.get? l = some { cls := .type "list", data := .seq u n } ∧ s.heap.get? b = some { cls := .type "list", data := .seq v m } ∧ u.size = N ∧ v.size = N ∧
    ∀ i (h1 : i < u.size) (h2 : i < v.size), wpAny (model prog w) A.in1 (eqBool u[i] v[i]) (fun r s' => r = f i ∧ I s') E s
theorem loop_b {l b : Addr} {N : Nat} {f : Nat → Bool} {I : Shared → Prop} (hl : StandL prog w A (fun e s' => R (.error e) s') l b N f I) :
    ∀ k i : Nat, N - i = k → i ≤ N → (∀ s, I s → R (.ok (.ret (.bool (allF f i k)))) s) → ∀ s, I s →
      wpAny (model prog w) A.in1 (Builtin.«list.__eq__.loop» ⟨[.ref l, .ref b, rawInt i, rawInt 2], []⟩) (GQ.FinOf prog w A R) (fun e s' => R (.error e) s') s := by
  intro k
  induction k with
  | zero =>
    intro i hk hi fin s h
    obtain ⟨u, v, n, m, e1, e2, z1, z2, _⟩ := hl s h
    have q := fin s h
    have u0 : u[((i : Nat) : Int).toNat]? = none := by simp; omega
    have v0 : v[((i : Nat) : Int).toNat]? = none := by simp; omega
    obtain ⟨hp, g, d, tk, os⟩ := s
    wp_walk using wpAny_loadPart' e1, wpAny_loadPart' e2
    rw [u0, v0]
    wp_walk using wpAny_loadPart' e1, wpAny_loadPart' e2
    show R (.ok (.ret (.bool (u.size == v.size)))) _
    rw [z1, z2]
    have q : R (.ok (.ret (.bool true))) _ := q
    simpa using q
  | succ k ih =>
    intro i hk hi fin s h
    obtain ⟨u, v, n, m, e1, e2, z1, z2, turn⟩ := hl s h
    have l1 : i < u.size := by omega
    have l2 : i < v.size := by omega
    have t := turn i l1 l2
    have u1 : u[((i : Nat) : Int).toNat]? = some u[i] := by simp [l1]
    have v1 : v[((i : Nat) : Int).toNat]? = some v[i] := by simp [l2]
    have c : ((i : Int) + 1) = ((i + 1 : Nat) : Int) := by omega
    obtain ⟨hp, g, d, tk, os⟩ := s
    wp_walk using wpAny_loadPart' e1, wpAny_loadPart' e2
    rw [u1, v1]
    refine wpAny_bind (wpAny_mono t (fun r s2 q => ?_) fun _ _ x => x)
    obtain ⟨rfl, i2⟩ := q
    cases fi : f i with
    | true =>
      have rec_ := ih (i + 1) (by omega) (by omega) (fun s hs => by have := fin s hs; rw [show allF f i (k + 1) = allF f (i + 1) k by show (f i && _) = _; rw [fi]; rfl] at this; exact this) s2 i2
      obtain ⟨hp2, g2, d2, tk2, os2⟩ := s2
      wp_walk
      rw [c]
      exact ⟨plainId_quiet plain_eq_loop _, codeAny_builtin entry_eq_loop (by
        rw [Around.under_plainId plain_eq_loop _]
        exact rec_)⟩
    | false =>
      have q := fin s2 i2
      rw [show allF f i (k + 1) = false by show (f i && _) = _; rw [fi]; rfl] at q
      obtain ⟨u', v', n', m', e1', e2', z1', z2', _⟩ := hl s2 i2
      have u1' : u'[((i : Nat) : Int).toNat]? = some (u'[i]'(by omega)) := by simp
      have v1' : v'[((i : Nat) : Int).toNat]? = some (v'[i]'(by omega)) := by simp
      obtain ⟨hp2, g2, d2, tk2, os2⟩ := s2
      wp_walk using wpAny_loadPart' e1', wpAny_loadPart' e2'
      rw [u1', v1']
      wp_walk
      exact q
/-- == of two lists that stand: by their lengths, then item by item up to the first that differs -/
theorem list_b {l b : Addr} {N1 N2 : Nat} {f : Nat → Bool} {I : Shared → Prop} (hl : N1 = N2 → StandL prog w A (fun e s' => R (.error e) s') l b N1 f I)
    (hz : ∀ s, I s → ∃ (u v : Array Value) (n m : Nat), s.heap.get? l = some { cls := .type "list", data := .seq u n } ∧ s.heap.get? b = some { cls := .type "list", data := .seq v m } ∧ u.size = N1 ∧ v.size = N2)
    (fin : ∀ s, I s → R (.ok (.ret (.bool (decide (N1 = N2) && allF f 0 N1)))) s) {s : Shared} (h : I s) :
    wpAny (model prog w) A.in1 (Builtin.«list.__eq__» ⟨[.ref l, .ref b], []⟩) (GQ.FinOf prog w A R) (fun e s' => R (.error e) s') s := by
  obtain ⟨u, v, n, m, e1, e2, z1, z2⟩ := hz s h
  have f3 := AutoSeq1.sub_list_list
  by_cases c : N1 = N2
  · have rec_ := loop_b (A := A) (R := R) (hl c) _ 0 rfl (Nat.zero_le _) (fun s hs => by have := fin s hs; rw [decide_eq_true c, Bool.true_and] at this; exact this) s h
    obtain ⟨hp, g, d, tk, os⟩ := s
    have hne : ¬ (u.size != v.size) = true := by simp [z1, z2, c]
    wp_walk using wpAny_loadPart' e1, wpAny_loadPart' e2
    exact ⟨plainId_quiet plain_eq_loop _, codeAny_builtin entry_eq_loop (by
      rw [Around.under_plainId plain_eq_loop _]
      exact rec_)⟩
  · have q := fin s h
    rw [decide_eq_false c, Bool.false_and] at q
    obtain ⟨hp, g, d, tk, os⟩ := s
    have hne : (u.size != v.size) = true := by simp [z1, z2, c]
    wp_walk using wpAny_loadPart' e1, wpAny_loadPart' e2
    exact q
theorem allF_at {f : Nat → Bool} : ∀ (k i j : Nat), (∀ x, i ≤ x → x < j → f x = true) → i ≤ j → j ≤ i + k → allF f i k = allF f j (i + k - j)
  | 0, i, j, _, h1, h2 => by
    have : j = i := by omega
    subst this; simp
  | k + 1, i, j, h, h1, h2 => by
    by_cases c : i = j
    · subst c; congr 1; omega
    · show (f i && allF f (i + 1) k) = _
      rw [h i (Nat.le_refl _) (by omega), Bool.true_and, allF_at k (i + 1) j (fun x a b => h x (by omega) b) (by omega) (by omega)]
      congr 1; omega
theorem tuple_b {l b : Addr} {u v : Array Value} {n m : Nat} {dd dd2 : Option Addr} {sl sl2 : Array (Option Value)} (sz : u.size = v.size) {f : Nat → Bool} {I : Shared → Prop}
    (turn : ∀ i (h1 : i < u.size) (h2 : i < v.size) s, I s → wpAny (model prog w) A.in1 (eqBool u[i] v[i]) (fun r s' => r = f i ∧ I s') (fun e s' => R (.error e) s') s)
    (fin : ∀ s, I s → R (.ok (.ret (.bool (allF f 0 u.size)))) s) {s : Shared} (e1 : s.heap.get? l = some { cls := .type "tuple", dict := dd, data := .seq u n, slots := sl }) (e2 : s.heap.get? b = some { cls := .type "tuple", dict := dd2, data := .seq v m, slots := sl2 }) (h : I s) :
    wpAny (model prog w) A.in1 (Builtin.«tuple.__eq__» ⟨[.ref l, .ref b], []⟩) (GQ.FinOf prog w A R) (fun e s' => R (.error e) s') s := by
  have f2 := AutoSeq1.sub_tuple_tuple
  have hZ : (u.toList.zip v.toList).length = u.size := by simp [sz]
  have h0 := h
  obtain ⟨hp, g, d, tk, os⟩ := s
  wp_walk using wpAny_loadPart' e1, wpAny_loadPart' e2, wpAny_forIn_list _ (fun rest b s' => I s' ∧ b.1 = none ∧ ∃ i, rest = (u.toList.zip v.toList).drop i ∧ i ≤ u.size ∧ ∀ x, x < i → f x = true) _
  case turn =>
    rintro ⟨y, x⟩ rest ⟨b1, b2⟩ s' ⟨hI, hb, i, hz, hi, all⟩
    have lt : i < (u.toList.zip v.toList).length := Nat.lt_of_not_le fun h' => by rw [List.drop_of_length_le h'] at hz; cases hz
    have h1 : i < u.size := hZ ▸ lt
    have h2 : i < v.size := sz ▸ h1
    rw [List.drop_eq_getElem_cons lt] at hz
    have hyx := (List.cons.inj hz).1
    have hrest := (List.cons.inj hz).2
    have hy : y = u[i] := by have := congrArg Prod.fst hyx; simpa using this
    have hx : x = v[i] := by have := congrArg Prod.snd hyx; simpa using this
    subst hy hx
    refine wpAny_bind (wpAny_mono (turn i h1 h2 s' hI) (fun r s2 q2 => ?_) fun _ _ x => x)
    obtain ⟨rfl, i2⟩ := q2
    cases fi : f i with
    | true =>
      wp_walk
      exact ⟨i2, rfl, i + 1, hrest, h1, fun x hx => by
        by_cases c : x = i
        · rw [c]; exact fi
        · exact all x (by omega)⟩
    | false =>
      have q := fin s2 i2
      rw [allF_at u.size 0 i (fun x _ b => all x b) (Nat.zero_le _) (by omega)] at q
      have e : allF f i (0 + u.size - i) = false := by
        rw [show 0 + u.size - i = (u.size - i - 1) + 1 by omega]
        show (f i && _) = false
        rw [fi]; rfl
      rw [e] at q
      wp_walk
      exact q
  case fin =>
    rintro ⟨b1, b2⟩ s' ⟨hI, hb, i, hz, hi, all⟩
    have hb : b1 = none := hb
    subst hb
    have ge : u.size ≤ i := Nat.le_of_not_lt fun h' => by
      rw [List.drop_eq_getElem_cons (by omega)] at hz; cases hz
    have q := fin s' hI
    rw [allF_at u.size 0 u.size (fun x _ b => all x (by omega)) (Nat.zero_le _) (by omega), show 0 + u.size - u.size = 0 by omega] at q
    have q : R (.ok (.ret (.bool true))) s' := q
    wp_walk
    simpa [Builtin.Tuple.tupleCompareSizes, sz] using q
  case h =>
    exact ⟨h0, rfl, 0, rfl, Nat.zero_le _, fun x hx => absurd hx (Nat.not_lt_zero _)⟩
end
section
open PySem.SeqAt
variable {prog : Program} {w : World} {A : Around} {E : Value → Shared → Prop}
theorem rc_list_b {l b : Addr} {N1 N2 : Nat} {f : Nat → Bool} {I : Shared → Prop} {Q : Value → Shared → Prop} (hu : A.units < cLine) (hl : N1 = N2 → StandL prog w A E l b N1 f I)
    (hz : ∀ s, I s → ∃ (u v : Array Value) (n m : Nat), s.heap.get? l = some { cls := .type "list", data := .seq u n } ∧ s.heap.get? b = some { cls := .type "list", data := .seq v m } ∧ u.size = N1 ∧ v.size = N2)
    (fin : ∀ s, I s → Q (.bool (decide (N1 = N2) && allF f 0 N1)) s) {s : Shared} (h : I s) : wpAny (model prog w) A (richCompare .Eq (.ref l) (.ref b)) Q E s := by
  obtain ⟨u, v, n, m, e1, e2, _, _⟩ := hz s h
  refine wpAny_richCompare_same_room (op := .Eq) ⟨_, e1, rfl⟩ ⟨_, e2, rfl⟩ F.slot_list_eq (GQ.call_here F.slot_list_eq ⟨_, e1, rfl⟩ F.entry_list_eq (F.args_list_eq_2 _ _) ?_) hu
  exact list_b (R := wants (fun v s' => v ≠ .notImplemented ∧ Q v s') E) hl hz (fun s' q => ⟨(fun x => nomatch x), fin s' q⟩) h
theorem rc_tup_b {l b : Addr} {u v : Array Value} {f : Nat → Bool} {I : Shared → Prop} {Q : Value → Shared → Prop} (sz : u.size = v.size) (hu : A.units < cLine) {s : Shared} (e1 : s.heap.IsTuple l u) (e2 : s.heap.IsTuple b v)
    (turn : ∀ i (h1 : i < u.size) (h2 : i < v.size) s, I s → wpAny (model prog w) A.in1 (eqBool u[i] v[i]) (fun r s' => r = f i ∧ I s') E s)
    (fin : ∀ s, I s → Q (.bool (allF f 0 u.size)) s) (h : I s) : wpAny (model prog w) A (richCompare .Eq (.ref l) (.ref b)) Q E s := by
  obtain ⟨⟨c1, dd, da, sl⟩, o1, hc, n, hd⟩ := id e1
  obtain ⟨⟨c2, dd2, da2, sl2⟩, o2, hc2, n2, hd2⟩ := id e2
  simp only at hc hd hc2 hd2
  subst hc hd hc2 hd2
  refine wpAny_richCompare_same_room (op := .Eq) ⟨_, o1, rfl⟩ ⟨_, o2, rfl⟩ F.slot_tuple_eq (GQ.call_here F.slot_tuple_eq ⟨_, o1, rfl⟩ F.entry_tuple_eq (F.args_tuple_eq_2 _ _) ?_) hu
  exact tuple_b (R := wants (fun v s' => v ≠ .notImplemented ∧ Q v s') E) sz turn (fun s' q => ⟨(fun x => nomatch x), fin s' q⟩) o1 o2 h
end
def MonB (D : Dqv) : Prop := ∀ x y H H' b, Ext H H' → D x y H b → D x y H' b
section
variable {X : Cx} {n m : Nat} {D D' : Dqv}
theorem EqB.or (h : EqB X n D) (h' : EqB X n D') : EqB X n (fun x y H b => D x y H b ∨ D' x y H b) := fun A pins s σ H x y u v b sb I rx ry d =>
  d.elim (fun d => h A pins s σ H x y u v b sb I rx ry d) fun d => h' A pins s σ H x y u v b sb I rx ry d
theorem MonB.or (h : MonB D) (h' : MonB D') : MonB (fun x y H b => D x y H b ∨ D' x y H b) := fun x y H H' b e d => d.elim (fun d => .inl (h x y H H' b e d)) fun d => .inr (h' x y H H' b e d)
/-- flat values -/
def FlB : Dqv := fun x y _ b => flatV x = true ∧ flatV y = true ∧ eqV x y = b
theorem mon_flB : MonB FlB := fun _ _ _ _ _ _ d => d
theorem eqB_flat : EqB X 0 FlB := by
  intro A pins s σ H x y u v b sb I rx ry d
  obtain ⟨fx, fy, e⟩ := d
  have q := eqAt_V (A := A) (s := s) rx ry fx fy
  rw [e] at q
  exact q X.prog X.w X.xe _ ⟨rfl, H, I, Ext.rfl'⟩
/-- item by item -/
def PrB (D : Dqv) (xs ys : List V) (H : Hp) (f : Nat → Bool) : Prop := ∀ (i : Nat) x y, xs[i]? = some x → ys[i]? = some y → D x y H (f i)
theorem PrB.mon (hD : MonB D) {xs ys : List V} {H H' : Hp} {f : Nat → Bool} (e : Ext H H') (p : PrB D xs ys H f) : PrB D xs ys H' f := fun i x y h1 h2 => hD x y H H' _ e (p i x y h1 h2)
def GrownI (X : Cx) (pins : List (Addr × Obj)) (σ : L2.St) (H : Hp) (s' : Shared) : Prop := ∃ H', Inv X pins σ H' s' ∧ Ext H H'
theorem turn_b (hD : MonB D) (h : EqB X n D) {A : Around} (sb : Sub X (n + 1) A) {pins : List (Addr × Obj)} {σ : L2.St} {H : Hp} {xs ys : List V} {f : Nat → Bool} {us vs : List Value} (p : PrB D xs ys H f) (r : Vals xs us) (r2 : Vals ys vs)
    (i : Nat) (h1 : i < us.toArray.size) (h2 : i < vs.toArray.size) (s' : Shared) (l : GrownI X pins σ H s') :
    wpAny (model X.prog X.w) A.in1 (eqBool us.toArray[i] vs.toArray[i]) (fun r s2 => r = f i ∧ GrownI X pins σ H s2) X.xe s' := by
  obtain ⟨H1, I1, e1⟩ := l
  have h1' : i < us.length := by simpa using h1
  have h2' : i < vs.length := by simpa using h2
  have k1 : i < xs.length := by rw [r.length]; exact h1'
  have k2 : i < ys.length := by rw [r2.length]; exact h2'
  obtain ⟨u, hu, ru⟩ := r.get (List.getElem?_eq_getElem k1)
  obtain ⟨v, hv, rv⟩ := r2.get (List.getElem?_eq_getElem k2)
  rw [List.getElem?_eq_getElem h1'] at hu
  rw [List.getElem?_eq_getElem h2'] at hv
  have eu : us.toArray[i] = u := by rw [← Option.some.inj hu]; simp
  have ev : vs.toArray[i] = v := by rw [← Option.some.inj hv]; simp
  rw [eu, ev]
  refine wpAny_mono (h A.in1 pins s' σ H1 _ _ u v _ sb.in1 I1 ru rv (hD _ _ _ _ _ e1 (p i _ _ (List.getElem?_eq_getElem k1) (List.getElem?_eq_getElem k2)))) (fun r s2 q => ?_) fun _ _ x => x
  obtain ⟨hr, H2, I2, e2⟩ := q
  exact ⟨hr, H2, I2, e1.trans e2⟩
def LstB (D : Dqv) : Dqv := fun x y H b => ∃ (a c : Addr) (xs ys : List V) (f : Nat → Bool), x = .ref a ∧ y = .ref c ∧ H a = some (.lst xs) ∧ H c = some (.lst ys) ∧ (xs.length = ys.length → PrB D xs ys H f) ∧ b = (decide (xs.length = ys.length) && allF f 0 xs.length)
def TupB (K : PySem.W.Frag) (D : Dqv) : Dqv := fun x y H b => ∃ (a c : Addr) (xs ys : List V) (f : Nat → Bool), x = .ref a ∧ y = .ref c ∧ SqT K H a xs ∧ SqT K H c ys ∧ xs.length = ys.length ∧ PrB D xs ys H f ∧ b = allF f 0 xs.length
theorem mon_tupB {K : PySem.W.Frag} (hD : MonB D) : MonB (TupB K D) := fun x y H H' b e ⟨a, c, xs, ys, f, hx, hy, h1, h2, l, p, q⟩ => ⟨a, c, xs, ys, f, hx, hy, h1.ext e, h2.ext e, l, p.mon hD e, q⟩
theorem rcB_list (hD : MonB D) (h : EqB X n D) : RcB X (n + 1) (LstB D) := by
  intro A pins s σ H x y u v b sb I rx ry d
  obtain ⟨a, c, xs, ys, f, rfl, rfl, ha, hc, p, rfl⟩ := d
  cases rx
  cases ry
  refine rc_list_b (N1 := xs.length) (N2 := ys.length) (f := f) (I := GrownI X pins σ H) sb.room.units0 (fun l s' q => ?_) (fun s' q => ?_) (fun s' q => ⟨rfl, q⟩) ⟨H, I, Ext.rfl'⟩
  · obtain ⟨H1, I1, e1⟩ := id q
    obtain ⟨z, us, k, r, e⟩ := I1.hok a _ (e1 _ _ ha)
    obtain ⟨z2, vs, k2, r2, e2⟩ := I1.hok c _ (e1 _ _ hc)
    exact ⟨us.toArray, vs.toArray, k, k2, e, e2, by rw [List.size_toArray, ← r.length], by rw [List.size_toArray, ← r2.length, l], fun i h1 h2 => turn_b hD h sb (p l) r r2 i h1 h2 s' q⟩
  · obtain ⟨H1, I1, e1⟩ := q
    obtain ⟨z, us, k, r, e⟩ := I1.hok a _ (e1 _ _ ha)
    obtain ⟨z2, vs, k2, r2, e2⟩ := I1.hok c _ (e1 _ _ hc)
    exact ⟨us.toArray, vs.toArray, k, k2, e, e2, by rw [List.size_toArray, ← r.length], by rw [List.size_toArray, ← r2.length]⟩
theorem rcB_tup (hD : MonB D) (h : EqB X n D) : RcB X (n + 1) (TupB X.K D) := by
  intro A pins s σ H x y u v b sb I rx ry d
  obtain ⟨a, c, xs, ys, f, rfl, rfl, ha, hc, l, p, rfl⟩ := d
  cases rx
  cases ry
  obtain ⟨us, r, e, z⟩ := I.tuple ha
  obtain ⟨vs, r2, e2, z2⟩ := I.tuple hc
  have sz : us.toArray.size = vs.toArray.size := by rw [List.size_toArray, List.size_toArray, ← r.length, ← r2.length]; exact l
  refine rc_tup_b (f := f) (I := GrownI X pins σ H) sz sb.room.units0 e e2 (fun i h1 h2 s' q => turn_b hD h sb p r r2 i h1 h2 s' q) (fun s' q => ⟨?_, q⟩) ⟨H, I, Ext.rfl'⟩
  rw [List.size_toArray, ← r.length]
/-- instances of the class at C, by the text's own == -/
def InsB (C : Addr) (R : Addr → Addr → Hp → Bool → Prop) : Dqv := fun x y H b => ∃ (a c : Addr) (dx dy : Addr) (fs gs : List (Str × V)), x = .ref a ∧ y = .ref c ∧ H a = some (.ins C dx fs) ∧ H c = some (.ins C dy gs) ∧ R a c H b
theorem mon_insB {C : Addr} {R : Addr → Addr → Hp → Bool → Prop} (hR : ∀ a c H H' b, Ext H H' → R a c H b → R a c H' b) : MonB (InsB C R) := fun x y H H' b e ⟨a, c, dx, dy, fs, gs, hx, hy, h1, h2, r⟩ => ⟨a, c, dx, dy, fs, gs, hx, hy, e _ _ h1, e _ _ h2, hR a c H H' b e r⟩
def spEqB (R : Addr → Addr → Hp → Bool → Prop) : Sp := fun vs H Q _ => ∃ (a c : Addr) (b : Bool), vs = [.ref a, .ref c] ∧ R a c H b ∧ ∀ H', Ext H H' → Q (.bl b) H'
theorem rcB_ins {CX : CXT} {C f : Addr} {fd : FuncData} {ps : List Str} {R : Addr → Addr → Hp → Bool → Prop} {E : XK} (F : FnOk X.prog X.w X.K X.mg X.base CX n f fd ps (spEqB R))
    (hs : PySem.W.findIn X.K (.ref C) "__eq__" = some (some (.ref f))) (hf : PySem.W.isFn X.K (.ref f) = true) (hb : Binds X.K fd ps []) (hx : Passes CX X E) : RcB X n (InsB C R) := by
  intro A pins s σ H x y u v b sb I rx ry d
  obtain ⟨a, c, dx, dy, fs, gs, rfl, rfl, ha, hc, hr⟩ := d
  cases rx
  cases ry
  obtain ⟨mA, J, _⟩ := ins_get I.hok ha
  obtain ⟨mB, J', _⟩ := ins_get I.hok hc
  obtain ⟨od, J, _⟩ := J.look
  obtain ⟨od', J', _⟩ := J'.look
  obtain ⟨m, hF⟩ := I.fr
  refine PySem.W.cmp_K (op := .Eq) (tb := .ref C) sb.room.units0 hF I.ok.mod.kin J J'.type (by simp [PySem.W.notFirst]) hs hf ?_
  have hsp : spEqB R [.ref a, .ref c] H (fun v H' => v = .bl b ∧ Ext H H') E := ⟨a, c, b, rfl, hr, fun H' e => ⟨rfl, e⟩⟩
  have e := I.env0
  have e0 : Env0 X.prog X.w X.K X.mg X.base A X.stack s H := ⟨by rw [sb.fr]; exact e.frames, e.mod, e.bs, e.bsz, e.funs, e.frf, e.hok, e.bare⟩
  have hl := F.len _ _ _ _ hsp
  refine wpAny_call (codeAny_mono (F.run A X.stack s H ⟨[.ref a, .ref c], []⟩ [.ref a, .ref c] [.ref a, .ref c] _ E sb.room e0 (by
    have := hb s [.ref a, .ref c] I.kIn (by simpa using hl)
    simpa using this) (.cons rfl (.cons rfl .nil)) hsp) fun r s' hq => ?_)
  cases r with
  | error e => exact hx pins σ H s e s' I hq
  | ok fl =>
    cases fl with
    | ret w =>
      obtain ⟨z, H', I', rz, ez, ex⟩ := I.after hq
      subst ez
      cases rz
      exact ⟨rfl, H', I', ex⟩
    | next => exact False.elim hq
    | brk => exact False.elim hq
    | cont => exact False.elim hq
/-- inside a list or a tuple the same object is the same -/
theorem RcB.eqB (h : RcB X n D) (hr : ∀ x y H b, D x y H b → ∃ a c, x = .ref a ∧ y = .ref c ∧ (a = c → b = true)) : EqB X n D := by
  intro A pins s σ H x y u v b sb I rx ry d
  obtain ⟨a, c, rfl, rfl, same⟩ := hr _ _ _ _ d
  cases rx
  cases ry
  by_cases ac : a = c
  · obtain rfl := same ac
    subst ac
    exact SeqAt.EqAt.same (A := A) (s := s) (.ref a) X.prog X.w X.xe _ ⟨rfl, H, I, Ext.rfl'⟩
  · refine GQ.eqBool_refG ac (wpAny_mono (h A pins s σ H (.ref a) (.ref c) _ _ b sb I rfl rfl d) (fun r s' q => ?_) fun _ _ x => x)
    obtain ⟨hr', q⟩ := q
    exact ⟨b, hr', rfl, q⟩
/-- x == y as an expression -/
def rEqB (D : Dqv) : R2 := fun x y H Q => ∃ b, D x y H b ∧ ∀ H', Ext H H' → Q (.bl b) H'
theorem op_eqB (h : RcB X n D) (hr : Room n X.A) : OpR X (compareOp .Eq) (rEqB D) := by
  intro pins s σ H x y v u Q I rx ry hq
  obtain ⟨b, d, q⟩ := hq
  show wpAny (model X.prog X.w) X.A (richCompare .Eq v u) (EP X pins σ Q) X.xe s
  refine wpAny_mono (h X.A pins s σ H x y v u b ⟨hr, rfl⟩ I rx ry d) (fun r s' z => ?_) fun _ _ x => x
  obtain ⟨hr', H', I', e⟩ := z
  subst hr'
  exact ⟨.bl b, H', I', rfl, q H' e⟩
end
end Jg
namespace Jg
open PySem PySem.Spec PyProof.Rows L2
section
open PySem.SeqAt AutoSeq1 MeetsSeq MeetsSeq2 MeetsSeq3 SeqRoads2
variable {prog : Program} {w : World} {A : Around} {R : Result → Shared → Prop}
theorem tuple_nb {l b : Addr} {u v : Array Value} {n m : Nat} {dd dd2 : Option Addr} {sl sl2 : Array (Option Value)} (sz : u.size = v.size) {f : Nat → Bool} {I : Shared → Prop}
    (turn : ∀ i (h1 : i < u.size) (h2 : i < v.size) s, I s → wpAny (model prog w) A.in1 (eqBool u[i] v[i]) (fun r s' => r = f i ∧ I s') (fun e s' => R (.error e) s') s)
    (fin : ∀ s, I s → R (.ok (.ret (.bool (!allF f 0 u.size)))) s) {s : Shared} (e1 : s.heap.get? l = some { cls := .type "tuple", dict := dd, data := .seq u n, slots := sl }) (e2 : s.heap.get? b = some { cls := .type "tuple", dict := dd2, data := .seq v m, slots := sl2 }) (h : I s) :
    wpAny (model prog w) A.in1 (Builtin.«tuple.__ne__» ⟨[.ref l, .ref b], []⟩) (GQ.FinOf prog w A R) (fun e s' => R (.error e) s') s := by
  have f2 := AutoSeq1.sub_tuple_tuple
  have hZ : (u.toList.zip v.toList).length = u.size := by simp [sz]
  have h0 := h
  obtain ⟨hp, g, d, tk, os⟩ := s
  wp_walk using wpAny_loadPart' e1, wpAny_loadPart' e2, wpAny_forIn_list _ (fun rest b s' => I s' ∧ b.1 = none ∧ ∃ i, rest = (u.toList.zip v.toList).drop i ∧ i ≤ u.size ∧ ∀ x, x < i → f x = true) _
  case turn =>
    rintro ⟨y, x⟩ rest ⟨b1, b2⟩ s' ⟨hI, hb, i, hz, hi, all⟩
    have lt : i < (u.toList.zip v.toList).length := Nat.lt_of_not_le fun h' => by rw [List.drop_of_length_le h'] at hz; cases hz
    have h1 : i < u.size := hZ ▸ lt
    have h2 : i < v.size := sz ▸ h1
    rw [List.drop_eq_getElem_cons lt] at hz
    have hyx := (List.cons.inj hz).1
    have hrest := (List.cons.inj hz).2
    have hy : y = u[i] := by have := congrArg Prod.fst hyx; simpa using this
    have hx : x = v[i] := by have := congrArg Prod.snd hyx; simpa using this
    subst hy hx
    refine wpAny_bind (wpAny_mono (turn i h1 h2 s' hI) (fun r s2 q2 => ?_) fun _ _ x => x)
    obtain ⟨rfl, i2⟩ := q2
    cases fi : f i with
    | true =>
      wp_walk
      exact ⟨i2, rfl, i + 1, hrest, h1, fun x hx => by
        by_cases c : x = i
        · rw [c]; exact fi
        · exact all x (by omega)⟩
    | false =>
      have q := fin s2 i2
      rw [allF_at u.size 0 i (fun x _ b => all x b) (Nat.zero_le _) (by omega)] at q
      have e : allF f i (0 + u.size - i) = false := by
        rw [show 0 + u.size - i = (u.size - i - 1) + 1 by omega]
        show (f i && _) = false
        rw [fi]; rfl
      rw [e] at q
      wp_walk
      exact q
  case fin =>
    rintro ⟨b1, b2⟩ s' ⟨hI, hb, i, hz, hi, all⟩
    have hb : b1 = none := hb
    subst hb
    have ge : u.size ≤ i := Nat.le_of_not_lt fun h' => by
      rw [List.drop_eq_getElem_cons (by omega)] at hz; cases hz
    have q := fin s' hI
    rw [allF_at u.size 0 u.size (fun x _ b => all x (by omega)) (Nat.zero_le _) (by omega), show 0 + u.size - u.size = 0 by omega] at q
    have q : R (.ok (.ret (.bool false))) s' := q
    wp_walk
    simpa [Builtin.Tuple.tupleCompareSizes, sz] using q
  case h =>
    exact ⟨h0, rfl, 0, rfl, Nat.zero_le _, fun x hx => absurd hx (Nat.not_lt_zero _)⟩
end
section
open PySem.SeqAt
variable {prog : Program} {w : World} {A : Around} {E : Value → Shared → Prop}
theorem rc_tup_nb {l b : Addr} {u v : Array Value} {f : Nat → Bool} {I : Shared → Prop} {Q : Value → Shared → Prop} (sz : u.size = v.size) (hu : A.units < cLine) {s : Shared} (e1 : s.heap.IsTuple l u) (e2 : s.heap.IsTuple b v)
    (turn : ∀ i (h1 : i < u.size) (h2 : i < v.size) s, I s → wpAny (model prog w) A.in1 (eqBool u[i] v[i]) (fun r s' => r = f i ∧ I s') E s)
    (fin : ∀ s, I s → Q (.bool (!allF f 0 u.size)) s) (h : I s) : wpAny (model prog w) A (richCompare .NotEq (.ref l) (.ref b)) Q E s := by
  obtain ⟨⟨c1, dd, da, sl⟩, o1, hc, n, hd⟩ := id e1
  obtain ⟨⟨c2, dd2, da2, sl2⟩, o2, hc2, n2, hd2⟩ := id e2
  simp only at hc hd hc2 hd2
  subst hc hd hc2 hd2
  refine wpAny_richCompare_same_room (op := .NotEq) ⟨_, o1, rfl⟩ ⟨_, o2, rfl⟩ F.slot_tuple_ne (GQ.call_here F.slot_tuple_ne ⟨_, o1, rfl⟩ F.entry_tuple_ne (F.args_tuple_ne_2 _ _) ?_) hu
  exact tuple_nb (R := wants (fun v s' => v ≠ .notImplemented ∧ Q v s') E) sz turn (fun s' q => ⟨(fun x => nomatch x), fin s' q⟩) o1 o2 h
end
section
variable {X : Cx} {n : Nat} {D : Dqv}
/-- x != y of two tuples of one length -/
def rNeTB (K : PySem.W.Frag) (D : Dqv) : R2 := fun x y H Q => ∃ b, TupB K D x y H b ∧ ∀ H', Ext H H' → Q (.bl (!b)) H'
theorem op_neTB (hD : MonB D) (h : EqB X n D) (hr : Room (n + 1) X.A) : OpR X (compareOp .NotEq) (rNeTB X.K D) := by
  intro pins s σ H x y v u Q I rx ry hq
  obtain ⟨b, ⟨a, c, xs, ys, f, rfl, rfl, ha, hc, l, p, rfl⟩, q⟩ := hq
  cases rx
  cases ry
  show wpAny (model X.prog X.w) X.A (richCompare .NotEq (.ref a) (.ref c)) (EP X pins σ Q) X.xe s
  obtain ⟨us, r, e, z⟩ := I.tuple ha
  obtain ⟨vs, r2, e2, z2⟩ := I.tuple hc
  have sz : us.toArray.size = vs.toArray.size := by rw [List.size_toArray, List.size_toArray, ← r.length, ← r2.length]; exact l
  refine rc_tup_nb (f := f) (I := GrownI X pins σ H) sz hr.units0 e e2 (fun i h1 h2 s' q => turn_b hD h ⟨hr, rfl⟩ p r r2 i h1 h2 s' q) (fun s' g => ?_) ⟨H, I, Ext.rfl'⟩
  obtain ⟨H', I', e'⟩ := g
  refine ⟨.bl (!allF f 0 xs.length), H', I', ?_, q H' e'⟩
  rw [List.size_toArray, ← r.length]; rfl
end
def TupR (K : PySem.W.Frag) (D : Dqv) : Dqv := fun x y H b => TupB K D x y H b ∧ (x = y → b = true)
/-- flat values, or instances by their own == -/
def FiB (C : Addr) (R : Addr → Addr → Hp → Bool → Prop) : Dqv := fun x y H b => FlB x y H b ∨ (InsB C R x y H b ∧ (x = y → b = true))
section
variable {X : Cx} {n k j : Nat} {D : Dqv} {C : Addr} {R : Addr → Addr → Hp → Bool → Prop} {sp : Sp}
theorem mon_tupR {K : PySem.W.Frag} (hD : MonB D) : MonB (TupR K D) := fun x y H H' b e d => ⟨mon_tupB hD x y H H' b e d.1, d.2⟩
theorem mon_fiB (hR : ∀ a c H H' b, Ext H H' → R a c H b → R a c H' b) : MonB (FiB C R) := fun x y H H' b e d => d.elim .inl fun d => .inr ⟨mon_insB hR x y H H' b e d.1, d.2⟩
theorem eqB_tupR (hD : MonB D) (h : EqB X n D) : EqB X (n + 1) (TupR X.K D) := ((rcB_tup hD h).imp fun _ _ _ _ d => d.1).eqB fun x y H b d => by
  obtain ⟨⟨a, c, xs, ys, f, hx, hy, _⟩, r⟩ := d
  exact ⟨a, c, hx, hy, fun e => r (by rw [hx, hy, e])⟩
theorem eqB_fi (c : Met X.prog X.w X.K X.mg X.base CX0 k C "__eq__" sp) (hsp : ∀ vs H Q E, spEqB R vs H Q E → sp vs H Q E) : EqB X k (FiB C R) := by
  obtain ⟨f, fd, ps, F, a, i, kp, b⟩ := c.ex
  have e1 : EqB X k (fun x y H b => InsB C R x y H b ∧ (x = y → b = true)) := ((rcB_ins (F.imp hsp) a i b pass0).imp fun _ _ _ _ d => d.1).eqB fun x y H b d => by
    obtain ⟨⟨a, c, dx, dy, fs, gs, hx, hy, _⟩, r⟩ := d
    exact ⟨a, c, hx, hy, fun e => r (by rw [hx, hy, e])⟩
  exact (eqB_flat.mono (Nat.zero_le k)).or e1
/-- == of lists of such tuples -/
theorem op_eqLTB (c : Met X.prog X.w X.K X.mg X.base CX0 k C "__eq__" sp) (hsp : ∀ vs H Q E, spEqB R vs H Q E → sp vs H Q E) (hR : ∀ a c H H' b, Ext H H' → R a c H b → R a c H' b) (hr : Room j X.A) (hk : k + 2 ≤ j) :
    OpR X (compareOp .Eq) (rEqB (LstB (TupR X.K (FiB C R)))) :=
  op_eqB (rcB_list (mon_tupR (mon_fiB hR)) (eqB_tupR (mon_fiB hR) (eqB_fi c hsp))) (hr.mono hk)
/-- != of two such tuples -/
theorem op_neTI (c : Met X.prog X.w X.K X.mg X.base CX0 k C "__eq__" sp) (hsp : ∀ vs H Q E, spEqB R vs H Q E → sp vs H Q E) (hR : ∀ a c H H' b, Ext H H' → R a c H b → R a c H' b) (hr : Room j X.A) (hk : k + 1 ≤ j) :
    OpR X (compareOp .NotEq) (rNeTB X.K (FiB C R)) :=
  op_neTB (mon_fiB hR) (eqB_fi c hsp) (hr.mono hk)
end
def rOwnEq (K : PySem.W.Frag) (C : Addr) (sp : Sp) (E : XK) : R2 := fun x y H Q => ∃ a dx fs t, x = .ref a ∧ H a = some (.ins C dx fs) ∧ TyX K H y t ∧ PySem.W.notFirst K C t = true ∧ sp [.ref a, y] H (fun v H' => ∃ c, v = .bl c ∧ Q (.bl c) H') E
theorem op_eq_c {X : Cx} {k j : Nat} {C : Addr} {sp : Sp} (c : Met X.prog X.w X.K X.mg X.base CX0 k C "__eq__" sp) (hr : Room j X.A) (hk : k + 1 ≤ j) : OpR X (compareOp .Eq) (rOwnEq X.K C sp E0) := by
  intro pins s σ H x y v u Q I rx ry h
  obtain ⟨f, fd, ps, F, a0, i0, kp, bd⟩ := c.ex
  obtain ⟨a, dx, fs, t, rfl, ha, ty, nf, q⟩ := h
  cases rx
  obtain ⟨mA, J, _⟩ := ins_get I.hok ha
  obtain ⟨od, J, _⟩ := J.look
  obtain ⟨P, Z, p, _⟩ := kit_of I ry ty
  obtain ⟨m, hF⟩ := I.fr
  have rm : Room (k + 1) X.A := hr.mono hk
  show wpAny _ _ (richCompare .Eq (.ref a) u) _ _ _
  have rr : Vals [V.ref a, y] [Value.ref a, u] := .cons rfl (.cons ry .nil)
  have ln : [Value.ref a, u].length = ps.length := (Paired.length rr).symm.trans (F.len _ _ _ _ q)
  have bb := bd s [Value.ref a, u] I.kIn (by rw [List.append_nil]; exact ln)
  rw [List.append_nil] at bb
  have run := F.run X.A X.stack s H ⟨[Value.ref a, u], []⟩ _ _ _ E0 (rm.mono (Nat.le_succ k)) I.env0 bb rr q
  refine PySem.W.cmp_K (op := .Eq) (tb := t) rm.units0 hF I.ok.mod.kin J (Z.ty _ _ I.kIn p) nf a0 i0 (wpAny_call (codeAny_mono run fun o s2 z => ?_))
  match o, z with
  | .error err, z => exact z.elim
  | .ok (.ret u2), z =>
    obtain ⟨v3, H2, J3, rv3, cc, rfl, q3⟩ := I.after z
    cases rv3
    exact ⟨.bl cc, H2, J3, rfl, q3⟩
end Jg
namespace Jg
open PySem PySem.Spec PyProof.Rows L2
/-- the shape that a list comprehension's reading asks -/
abbrev LcAsk (J : It) (g : TG) (tt : TT) (te : TE) (vs : List Nat) (σ : L2.St) (H1 : Hp) (D : Addr) (Qd : Hp → Prop) : Prop :=
  ∃ W : Nat → Nat → Hp → Prop, (∃ m, W 0 m (upd H1 D (.lst []))) ∧ ∀ i m H, W i m H →
      (J.stop i H ∧ Qd H) ∨ (J.go i H ∧ ∃ Nx : Hp → Prop, (∀ H', Nx H' → ∃ m', m' < m ∧ W (i + 1) m' H') ∧ ∀ x H', J.yld i H x H' → g x (wipe σ vs) H' fun σ2 H2 => wipe σ2 vs = wipe σ vs ∧ tt σ2 H2 fun b H3 =>
        if b = true then te σ2 H3 fun y H4 => ∃ acc, H4 D = some (.lst acc) ∧ acc.length < sizeLine ∧ Nx (upd H4 D (.lst (acc ++ [y]))) else Nx H3)
end Jg
namespace Jg
open PySem PySem.Spec PyProof.Rows L2
theorem lay_ints : ∀ xs : List Int, PyData.canLayAll0 (xs.map PyData.int) = true
  | [] => rfl
  | x :: xs => by
    show (PyData.canLay0 (.int x) && PyData.canLayAll0 (xs.map PyData.int)) = true
    rw [lay_ints xs]; rfl
theorem depth_ints : ∀ xs : List Int, PyData.depthAll (xs.map PyData.int) = 0
  | [] => rfl
  | x :: xs => by
    show max (PyData.depth (.int x)) (PyData.depthAll (xs.map PyData.int)) = 0
    rw [depth_ints xs]; rfl
theorem shaped_ints (xs : List Int) : SeqAt.shaped (.list (xs.map PyData.int)) = true := by
  show (PyData.canLayAll0 (xs.map PyData.int) && decide (PyData.depthAll (xs.map PyData.int) + 1 ≤ 64)) = true
  rw [lay_ints, depth_ints]; rfl
theorem eqvAll_ints : ∀ xs ys : List Int, PyData.eqvAll (xs.map PyData.int) (ys.map PyData.int) = decide (xs = ys)
  | [], [] => rfl
  | [], y :: ys => rfl
  | x :: xs, [] => rfl
  | x :: xs, y :: ys => by
    have ih := eqvAll_ints xs ys
    show (PyData.eqv (.int x) (.int y) && PyData.eqvAll (xs.map PyData.int) (ys.map PyData.int)) = _
    rw [ih]
    have e : PyData.eqv (.int x) (.int y) = decide (x = y) := by
      by_cases c : x = y
      · subst c; simp [PyData.eqv]
      · simp [PyData.eqv, c]
    rw [e]
    by_cases c : x = y
    · subst c
      by_cases d : xs = ys
      · subst d; simp
      · simp [d]
    · simp [c]
theorem eqv_ints (xs ys : List Int) : PyData.eqv (.list (xs.map PyData.int)) (.list (ys.map PyData.int)) = decide (xs = ys) := by
  rw [PyData.eqv]; exact eqvAll_ints xs ys
theorem dpAll_ints {K : PySem.W.Frag} {H : Hp} : ∀ xs : List Int, DpAll K H (xs.map V.int) (xs.map PyData.int)
  | [] => .nil
  | x :: xs => .cons (.int x) (dpAll_ints xs)
theorem dp_ints {K : PySem.W.Frag} {H : Hp} {a : Addr} {xs : List Int} (h : SqL K H a (xs.map V.int)) : Dp K H (.ref a) (.list (xs.map PyData.int)) := .lst h (dpAll_ints xs)
theorem ask_neL {K : PySem.W.Frag} {H : Hp} {a b : Addr} {xs ys : List Int} {Q : VK} (h1 : SqL K H a (xs.map V.int)) (h2 : SqL K H b (ys.map V.int)) (q : Q (.bl (!decide (xs = ys))) H) : rNeD K (.ref a) (.ref b) H Q :=
  ⟨_, _, dp_ints h1, dp_ints h2, shaped_ints xs, shaped_ints ys, by rw [eqv_ints]; exact q⟩
end Jg
namespace Jg
open PySem PySem.Spec PyProof.Rows L2
/-- a set just made -/
def mtSet (w : World) : Obj := { cls := .type "set", dict := none, data := .set #[] 0 (.fresh 0 0 (!w.params.followText "set-order")) }
section
variable {P : Program} {w : World} {A : Around} {E : Value → Shared → Prop} {s : Shared}
theorem mt_at (w : World) (h : Heap) : (h.push (mtSet w)).get? h.objs.size = some (mtSet w) := Heap.get?_push_size _ rfl
end
end Jg
namespace Jg
open PySem PySem.Spec PyProof.Rows L2
section
variable {X : Cx} {pins : List (Addr × Obj)} {σ : L2.St} {H : Hp} {a : Addr} {cls : Value} {d : Option Addr} {s : Shared}
end
section
variable {X : Cx} {Wout : WX}
/-- try: body / clauses -/
theorem ps_try {body : List Stmt} {h₀ : ExceptHandler} {hds : List ExceptHandler} {w : Ends → WX} {pos : Pos} {tb : WX → TS} (hd : Hds X Wout (h₀ :: hds) w) (hs : X.stack = X.env :: X.outer) (fr : X.env.frame = some X.env.locals) (hN : X.N.Nodup) (tk : Takes X Wout)
    (hb : ∀ (W : WX) (pn : List (Addr × Obj)) (xe : Value → Shared → Prop), Takes (X.tr pn xe) W → PassesOwn (model X.prog X.w) X.A X.env xe → PSs (X.tr pn xe) body (tb W)) :
    PS X (.Try body (h₀ :: hds) [] [] pos) fun D σ H => tb (w D) D σ H := by
  refine ⟨fun pins s σ H D I h => wpAny_Try_except ?_⟩
  have ok := I.ok
  let xe : Value → Shared → Prop := fun e s1 => wpAny (model X.prog X.w) X.A (noteFrame e X.env) (fun _ s2 => wpAny (model X.prog X.w) X.A (setFlight e .none) (fun _ s3 => wpAny (model X.prog X.w) X.A (handleBy e X.env (h₀ :: hds)) (SP X pins D) X.xe s3) X.xe s2) X.xe s1
  have tkb : Takes (X.tr (X.pn ++ pins) xe) (w D) := by
    rintro u s1 ⟨a, B, s0, pins', σ1, H1, cls, d, rfl, J', keep, up, sky, z, os, bare, wd⟩
    have J : Inv X pins σ1 H1 s0 := J'.ofTry ok
    have fl : Sky B (X.env :: X.outer) a (Zc cls d) X.env.locals s1.heap := by rw [← hs]; exact sky
    show wpAny (model X.prog X.w) X.A (noteFrame (.ref a) X.env) _ _ _
    refine Sky.land Zc.steady (by rw [ok.frames, hs]) fr fl fun h3 fly up3 => ?_
    exact hd.run hs fr hN tk ⟨B, s0, J, keep, up.trans up3, fly, os, bare, z⟩ wd
  refine wpAny_mono ((hb (w D) (X.pn ++ pins) xe tkb PassesOwn.looking).run [] s σ H D (I.toTry xe) h) (fun f s1 z => ?_) fun _ _ z => z
  match f, z with
  | .next, ⟨_, _, J, q⟩ => exact wpAny_execs_nil ⟨_, _, J.ofTry ok, q⟩
  | .brk, ⟨_, _, J, q⟩ => exact ⟨_, _, J.ofTry ok, q⟩
  | .cont, ⟨_, _, J, q⟩ => exact ⟨_, _, J.ofTry ok, q⟩
  | .ret u, ⟨_, _, _, J, rv, q⟩ => exact ⟨_, _, _, J.ofTry ok, rv, q⟩
end
section
variable {P : Program} {w : World} {K : PySem.W.Frag} {mg : Str → Option Value} {base : Heap} {k : Nat} {C : Addr} {x m qual : Str} {st : Stmt} {N ps : List Str} {sp : Sp}
/-- what a body that may raise must show -/
def BodyX (P : Program) (w : World) (K : PySem.W.Frag) (mg : Str → Option Value) (base : Heap) (N : List Str) (qual : Str) (st : Stmt) (f : Addr) (k : Nat) (sp : Sp) : Prop :=
  ∀ (cdv : Value) (A : Around) (outer : List Env) (s : Shared) (H : Hp) (vs : List V) (Q : VK) (E : XK), Room k (A.deeper (envOfC qual (defScope st) s.heap.objs.size f cdv)) → sp vs H Q E →
      ∃ t, PSs (cxOf (L2.CX P w) P w K mg base N qual (defScope st) f cdv A outer s H E) (defBody st) t ∧ t { nx := fun _ H' => Q .non H', rt := Q } (start N vs) H
theorem MetK.metX (D : MetK K C m qual st) (S : FnScope N ps (defScope st)) (b : BindOk m qual st ps) (len : ∀ vs H Q E, sp vs H Q E → vs.length = ps.length) (hb : ∀ f, BodyX P w K mg base N qual st f k sp) : Met P w K mg base (L2.CX P w) (k + 1) C m sp :=
  let ⟨f, fd, F, a, i⟩ := D.ex
  ⟨f, fd, ps, F.okX S len (hb f), a, i, F.kp, F.binds b⟩
end
/-- __init__ that keeps its one argument in the field f -/
def spX (C : Addr) (f : Str) : Sp := fun vs H Q _ => ∃ a y, vs = [.ref a, y] ∧ H a = some (exo a C none) ∧ ∀ dx, H dx = none → dx ≠ a → Q .non (upd (upd H dx (exd dx [(f, y)])) a (exo a C (some dx)))
/-- .. called: the exception's dict is new, all else stays -/
theorem x_read {C : Addr} {f : Str} {y : V} {H : Hp} {Q : XK} (h : ∀ d, H d = none → Q (.ref C) (some d) (upd H d (.xd [(f, y)]))) : ([y] : List V).length ≤ 1000 ∧ ∀ a, H a = none → spX C f (.ref a :: ([y] ++ [])) (upd H a (exo a C none))
    (fun v H2 => v = .non ∧ ∃ (d : Addr) (fs : List (Str × V)), H2 a = some (exo a C (some d)) ∧ H2 d = some (exd d fs) ∧ H d = none ∧ Q (.ref C) (some d) (upd (del H2 a) d (.xd fs))) fun _ _ _ => False := by
  refine ⟨by show 1 ≤ 1000; decide, fun a na => ⟨a, y, rfl, upd_same, fun dx nd ne => ⟨rfl, dx, [(f, y)], upd_same, ?_, ?_, ?_⟩⟩⟩
  · rw [upd_ne ne, upd_same]
  · rw [upd_ne ne] at nd
    exact nd
  · have nd' : H dx = none := by rw [upd_ne ne] at nd; exact nd
    have e : upd (del (upd (upd (upd H a (exo a C none)) dx (exd dx [(f, y)])) a (exo a C (some dx))) a) dx (.xd [(f, y)]) = upd H dx (.xd [(f, y)]) := by
      funext b
      by_cases c1 : b = dx
      · rw [c1, upd_same, upd_same]
      · rw [upd_ne c1, upd_ne c1]
        by_cases c2 : b = a
        · rw [c2, del_same, na]
        · rw [del_ne c2, upd_ne c2, upd_ne c1, upd_ne c2]
    rw [e]
    exact h dx nd'
section
variable {X : Cx} {a C : Addr} {oe : Obj} {cls : Value} {d : Option Addr} {pn : List (Addr × Obj)}
/-- isinstance(e, c) of a caught exception with a dict -/
def rIsX (K : PySem.W.Frag) (cls : Value) (C a : Addr) (d : Option Addr) : List V → Hp → VK → Prop := fun xs H Q => ∃ (c : V) (cv : Value) (b : Bool) (dd : Addr) (fs : List (Str × V)), xs = [.ref a, c] ∧ cls = .ref C ∧ d = some dd ∧ H dd = some (.xd fs) ∧ (∀ u, RelV c u → u = cv) ∧ PySem.W.kitOne K (.ref C) cv = some b ∧ Q (.bl b) H
theorem exc_inst {pins : List (Addr × Obj)} {σ : L2.St} {H : Hp} {s : Shared} {dd : Addr} {fs : List (Str × V)} (I : Inv (X.suite a ((a, oe) :: pn)) pins σ H s) (hz : Zc (.ref C) (some dd) oe) (hf : ∃ vs, oe.data = .fields vs) (e : H dd = some (.xd fs)) : ∃ od, PySem.W.InstAt s.heap a oe C (some od) := by
  obtain ⟨mA, ns, _⟩ := I.hok dd _ e
  obtain ⟨od, at2, _⟩ := lookIn_ns ns
  obtain ⟨at1, _⟩ := I.pin (a, oe) (List.mem_append_left _ List.mem_cons_self)
  obtain ⟨vs, dt⟩ := hf
  exact ⟨od, at1, hz.1, by unfold PySem.W.notCls; rw [dt] <;> rfl, by rw [hz.2]; exact at2⟩
theorem call_isX (T : ExcK X.K C) (hz : Zc cls d oe) (hf : ∃ vs, oe.data = .fields vs) : CallR (X.suite a ((a, oe) :: pn)) (.builtin "isinstance") (rIsX X.K cls C a d) := by
  intro pins s σ H xs us Q I r h
  obtain ⟨c, cv, b, dd, fs, rfl, rfl, rfl, e, hc, k, q⟩ := h
  cases r with
  | cons r1 r2 =>
    cases r2 with
    | cons r3 r4 =>
      cases r4
      cases r1
      have ec := hc _ r3
      subst ec
      obtain ⟨od, J⟩ := exc_inst I hz hf e
      have cl : (PySem.W.clsIn X.K C).isSome = true := by
        obtain ⟨cd, z, _⟩ := PySem.W.any_some T.xf.hdC
        rw [z]; rfl
      exact PySem.W.kia_one (PySem.W.kitx_exc cl T.xf.ga T.xf.gg T.xf.exC T.ha T.hn T.ht T.hm) I.kIn J k (fun z => nomatch z) fun tk => ⟨.bl b, H, I.kept (t' := tk) fun _ _ z => z, rfl, q⟩
end
end Jg
namespace Jg
open PySem PySem.Spec PyProof.Rows L2
def rShw (K : PySem.W.Frag) : List V → Hp → VK → Prop := fun xs H Q => ∃ v x, xs = [v] ∧ Shw K H v x ∧ Q (.str x) H
section
variable {X : Cx}
theorem dk_nil {P : Program} {w : World} {H : Hp} {h : Heap} {a : Addr} (ok : HOk P w H h) (e : H a = some (.dK [])) : ∃ as, Reads h (.ref a) (.dict []) as ∧ sysModules ∉ as := by
  obtain ⟨_, na, vs, kv, o, es, n, at_, ex, dt, _, pr, _⟩ := ok a _ e
  cases kv
  have e0 : es.toList = [] := by
    revert pr
    generalize es.toList = l
    intro pr
    cases pr
    rfl
  have r1 : ReadsAll h (es.toList.map (·.key)) (([] : List (PyData × PyData)).map (·.1)) [] := by rw [e0]; exact ReadsAll.nil
  have r2 : ReadsAll h (es.toList.map (·.val)) (([] : List (PyData × PyData)).map (·.2)) [] := by rw [e0]; exact ReadsAll.nil
  refine ⟨_, Reads.dict at_ ex.1 dt r1 r2, fun m => ?_⟩
  have z : sysModules = a := by simpa using m
  rw [← z] at na
  cases na
theorem call_shw (g : X.A.guards = some []) (hu : X.A.units + 64 < cLine) : CallR X (.builtin "repr") (rShw X.K) := by
  intro pins s σ H xs us Q I r h
  obtain ⟨v, x, rfl, sh, q⟩ := h
  obtain ⟨u, rfl, ru⟩ := vals1 r
  cases sh with
  | non => cases ru; exact PySem.P.repr_of_none ⟨.str _, H, I.tok _, ⟨_, rfl⟩, q⟩
  | bl b => cases ru; exact PySem.P.repr_of_bool ⟨.str _, H, I.tok _, ⟨_, rfl⟩, q⟩
  | int i hz => obtain ⟨t, rfl⟩ := ru; exact PySem.P.repr_of_int hz ⟨.str _, H, I.tok _, ⟨_, rfl⟩, q⟩
  | str y hz => obtain ⟨t, rfl⟩ := ru; exact PySem.P.repr_of_str ⟨.str _, H, I.tok _, ⟨_, rfl⟩, q⟩ hz
  | dat hd hs dp hz =>
    cases ru
    obtain ⟨as, R⟩ := Dp.reads I _ _ (.ref _) hd rfl
    exact repr_of_reads' R hs (PyData.noDict_hsm (noDict _ _ _ _ hd)) g (by omega) (fun _ _ e => e) (fun h' u tk hk => ⟨.str _, H, I.kept hk, ⟨_, rfl⟩, q⟩) hz
  | dnew e =>
    cases ru
    obtain ⟨as, R, na⟩ := dk_nil I.hok e
    have dp : (PyData.dict []).depth ≤ 40 := by decide +kernel
    exact repr_of_reads' R (by decide +kernel) (fun _ => na) g (by omega) (fun _ _ e => e) (fun h' u tk hk => ⟨.str _, H, I.kept hk, ⟨_, rfl⟩, q⟩) (by decide +kernel)
end
end Jg
namespace Jg
open PySem PySem.Spec PyProof.Rows L2
end Jg
namespace Jg
open PySem PySem.Spec PyProof.Rows L2
theorem taker0 {K : PySem.W.Frag} {C : Addr} {f : Str} (h : PySem.W.findIn K (.ref C) f = some none) : PySem.W.takerIn K C f = some none := by
  unfold PySem.W.takerIn
  rw [h]
  rfl
section
variable {X : Cx} {pins : List (Addr × Obj)} {σ : L2.St} {H : Hp} {s : Shared} {a C : Addr} {f : Str} {y : V} {u : Value} {Q : Unit → Shared → Prop} {E : Value → Shared → Prop} {A : Around}
/-- the first field of an exception that is being made: its dict comes to be -/
theorem keep_first (T : Ovr X.K C) (I : Inv X pins σ H s) (e : H a = some (exo a C none)) (no : PySem.W.findIn X.K (.ref C) f = some none) (ry : RelV y u)
    (h : ∀ dx s', H dx = none → dx ≠ a → Inv X pins σ (upd (upd H dx (exd dx [(f, y)])) a (exo a C (some dx))) s' → Q () s') : wpAny (model X.prog X.w) A (setAttr (.ref a) f u) Q E s := by
  obtain ⟨B, nid, iid, line, T⟩ := T
  obtain ⟨t1, ho⟩ := exo_at I.hok e
  obtain ⟨cd, hc, hdd⟩ := PySem.W.any_some T.hd
  have kin := I.kIn
  obtain ⟨hp, g, d, t, os⟩ := s
  refine PySem.W.set_plain (ox := PySem.W.excObj C t1 none .none) (od := none) kin ⟨ho, rfl, rfl, trivial⟩ T.sa ?_
  refine PySem.W.osa_openX (od := none) T.sB kin ⟨ho, rfl, rfl, trivial⟩ T.ovr (taker0 no) fun b => ?_
  refine wpAny_bind (wpAny_pure (wpAny_bind (PySem.W.instanceDict_exc ho (PySem.W.looks_clsIn kin hc) hdd ?_)))
  have below : a < hp.objs.size := Heap.lt_size ho
  have apart : a ≠ hp.objs.size := Nat.ne_of_lt below
  have ho2 : (hp.push (PySem.W.dictOf [] 0)).get? a = some (PySem.W.excObj C t1 none .none) := Heap.get?_push_of_some _ ho
  show wpAny _ _ (Builtin.ObjectAttr.storeInDict hp.objs.size (.str f _) f u) _ _ _
  refine HandSPX.store_in_new ⟨_, #[], _, (Heap.get?_update_ne _ _ _ _ apart.symm).trans (Heap.get?_push_at rfl rfl), rfl, fun _ z => absurd z (by simp), fun _ => rfl⟩ fun h2 tk2 ns1 same => ?_
  -- the dict first, then the exception
  obtain ⟨od, es, ep, hod, rest⟩ := id ns1
  have ha2 : h2.get? a = some (PySem.W.excObj C t1 (some hp.objs.size) .none) := (same.2 a apart).trans (Heap.get?_update_self _ ho2 rfl)
  have stays : ∀ c o, c ≠ a → hp.get? c = some o → h2.get? c = some o := fun c o n z =>
    (same.2 c (Nat.ne_of_lt (Heap.lt_size z))).trans ((Heap.get?_update_ne _ _ _ _ n).trans (Heap.get?_push_of_some _ z))
  have nd : H hp.objs.size = none := I.hok.fresh (Nat.le_refl _)
  have fr : od.isFreed = false := (Heap.get?_some_iff.mp hod).2
  have hg : (hp.push od).get? hp.objs.size = some od := Heap.get?_push_at rfl fr
  have I1 : Inv X pins σ (upd H hp.objs.size (exd hp.objs.size [(f, y)])) ⟨hp.push od, g, d, t, os⟩ :=
    I.laid (a := hp.objs.size) (t' := t) (o := exd hp.objs.size [(f, y)]) (h' := hp.push od) (fun c o z => Heap.get?_push_of_some _ z) (Nat.le_refl _)
      (exd_ok (ns1.at fun o z => by rw [hod] at z; cases z; exact hg) (relO_put (fs := []) ry fun _ => True.intro))
  have e1 : upd H hp.objs.size (exd hp.objs.size [(f, y)]) a = some (exo a C none) := by rw [upd_ne apart]; exact e
  have I2 := I1.write (x := a) (e := a) (t' := tk2) (h' := h2) (o := exo a C (some hp.objs.size)) (by rw [e1]; exact True.intro) (.inl rfl)
    (fun c o n z => by
      by_cases k : c = hp.objs.size
      · subst k
        rw [hg] at z
        cases z
        exact hod
      · have z' : hp.get? c = some o := by
          rw [Heap.get?_push_ne _ _ _ k] at z
          exact z
        exact stays c o n z') ⟨_, ha2⟩ (exo_ok ha2)
  exact h _ _ nd apart.symm I2
end
/-- self.f = e in an exception's __init__ -/
def tKeep (K : PySem.W.Frag) (f : Str) (to te : TE) : TS := fun D σ H => te σ H fun y H1 => to σ H1 fun x H2 => ∃ a C : Addr, x = .ref a ∧ Ovr K C ∧ PySem.W.findIn K (.ref C) f = some none ∧
  H2 a = some (exo a C none) ∧ ∀ dx, H2 dx = none → dx ≠ a → D.nx σ (upd (upd H2 dx (exd dx [(f, y)])) a (exo a C (some dx)))
theorem ps_keep {X : Cx} {o e : Expr} {to te : TE} {f : Str} {p' pos : Pos} (ho : PE X o to) (he : PE X e te) (hs : swapsWith e (some (.Attribute o f p')) pos.line X.env = pure false := by rfl) : PS X (.Assign [.Attribute o f p'] e pos) (tKeep X.K f to te) :=
  ⟨fun pins s σ H D I h => plainObj_wpAny_Assign_Attribute (thn (he.run pins s σ H _ I h) fun v s1 ⟨y, H1, I1, r1, q1⟩ => thn (ho.run pins s1 σ H1 _ I1 q1) fun u s2 ⟨x, H2, I2, r2, a, C, ex, T, no, ea, q⟩ => by
    subst ex
    obtain rfl : u = Value.ref a := r2
    exact keep_first T I2 ea no r1 fun dx s' n ne J => ⟨σ, _, J, q dx n ne⟩) hs⟩
/-- an exception class of the program with an own __init__, over any built-in one -/
structure ExnB (P : Program) (w : World) (K : PySem.W.Frag) (mg : Str → Option Value) (base : Heap) (k : Nat) (x : Str) (C : Addr) (sp : Sp) : Prop where
  mg_ : mg x = some (.ref C)
  cls : Ovr K C
  init : ∃ fI fd ps, FnOk P w K mg base CX0 k fI fd ps sp ∧ PySem.W.findIn K (.ref C) "__init__" = some (some (.ref fI)) ∧ PySem.W.typeIn K (.ref fI) = some (.type "function") ∧ Binds K fd ps []
theorem pmk_b {X : Cx} {k j : Nat} {C : Addr} {x : Str} {sp : Sp} {p pos : Pos} {e : Expr} {es : List Expr} {t : TA} (c : ExnB X.prog X.w X.K X.mg X.base k x C sp) (hr : Room j X.A) (hk : k + 1 ≤ j) (hg : Gl X x) (ha : PA X (e :: es) t)
    (hdb : (x == ("__debug__" : Str)) = false := by decide) (he : starEach (e :: es) X.env = (false, eval e X.env) :: starEach es X.env := by rfl) (hpl : (backTo pos (starEach es X.env)).any (·.1) = false := by rfl) :
    PMk X (.Call (.Name x p) (e :: es) [] pos) (tMkO C sp [] t) := by
  obtain ⟨fI, fd, ps, F, at_, ty, b⟩ := c.init
  obtain ⟨B, nid, iid, line, T⟩ := c.cls
  intro pins s σ H Q I h
  refine wpAny_Call_Name_kw (ld_glob I hg c.mg_ (PySem.W.callWith_K (h₀ := X.base) I.ok.mod.kin T.kC (thn (ha.run pos pins s σ H _ I h) fun us s1 ⟨vs, H1, J, rs, short, go⟩ => ⟨J.kIn, ?_⟩) he hpl) hdb)
  obtain ⟨nm, N, qn, bs, bm, hdct, sn, sub, ab, col, dd, k0, k1, k2, k3, k5, hC, same⟩ := PySem.W.excInit_of J.kIn T.ini
  obtain ⟨hp, g, dr, tk, os⟩ := s1
  let n := hp.objs.size
  let h2 := (hp.push (PySem.W.kdv_tup us)).push (HandSPX.excO C n)
  have grown : ∀ b o, hp.get? b = some o → h2.get? b = some o := fun b o z => Heap.get?_push_of_some _ (Heap.get?_push_of_some _ z)
  have here : h2.get? (n + 1) = some (HandSPX.excO C n) := by
    show ((hp.push (PySem.W.kdv_tup us)).push (HandSPX.excO C hp.objs.size)).get? (hp.objs.size + 1) = some (HandSPX.excO C hp.objs.size)
    heap_get
  have hole : H1 (n + 1) = none := J.hok.fresh (Nat.le_succ _)
  have q0 := go (n + 1) hole
  have J2 : Inv X pins σ (upd H1 (n + 1) (exo (n + 1) C none)) ⟨h2, g, dr, tk, os⟩ := J.laid (t' := tk) (a := n + 1) (h' := h2) grown (Nat.le_succ _) (exo_ok here)
  have rel : Vals (V.ref (n + 1) :: (vs ++ [])) (Value.ref (n + 1) :: (us ++ [])) := .cons rfl (rs.append .nil)
  have many : (Value.ref (n + 1) :: us ++ []).length = ps.length := rel.length.symm.trans (F.len _ _ _ _ q0)
  have fits : us.length ≤ sizeLine := by
    have z := Paired.length rs
    rw [sizeLine_eq]
    omega
  have run := F.run _ X.stack _ _ ⟨Value.ref (n + 1) :: us, []⟩ _ _ _ (fun _ _ _ => False) ((hr.mono hk).make C us []) (J2.env0.make C us []) (b _ (Value.ref (n + 1) :: us) J2.kIn many) rel q0
  show wpAny _ _ (call (.ref C) us) _ _ _
  refine wpAny_call (HandSPX.call_own T.fB same hC (PySem.W.looks_findIn J.kIn at_) (fun self => PySem.W.bind_fn J.kIn self ty) fits (codeAny_mono run fun o s2 z => ?_))
  match o, z with
  | .error err, z => exact (pass0 : Passes CX0 X _) pins σ _ _ err s2 J2 z
  | .ok (.ret u), ⟨v, H2, os2, bare2, un2, hok2, rv, ev, d, fs, ea, ed, nd, q2⟩ =>
    subst ev
    exact ⟨rv, mk_end (raises_own T.exC T.tyC) J (Nat.le_succ _) grown un2 hok2 os2 bare2 ea ed nd q2⟩
def tMethS (C : Addr) (m : Str) (sp : Sp) (E : L2.St → XK) (ta : TE) (t : TA) : TE := fun σ H Q => ta σ H fun x H1 => ∃ a dx fs, x = .ref a ∧ H1 a = some (.ins C dx fs) ∧ fs.lookup m = none ∧ t σ H1 fun vs H2 => sp (.ref a :: vs) H2 Q (E σ)
section
variable {X : Cx} {k j : Nat} {C : Addr} {x m : Str} {sp : Sp} {W : WX} {p pos apos : Pos} {e o : Expr} {es : List Expr} {ta : TE} {t : TA}
theorem pe_mS {pl : Sem Bool} (c : Met X.prog X.w X.K X.mg X.base (L2.CX X.prog X.w) k C m sp) (cl : Cls X.K C) (tk : Takes X W) (hr : Room j X.A) (hk : k ≤ j) (he : PE X o ta) (ha : PA X (e :: es) t)
    (hst : starEach (e :: es) X.env = (false, eval e X.env) :: starEach es X.env := by rfl) (hpl : (backTo pos (starEach es X.env)).any (·.1) = false := by rfl)
    (ht : eval (.Call (.Attribute o m apos) (e :: es) [] pos) X.env = (do
      let ov ← eval o X.env
      standAt apos.atName
      let (f, first) ← holding [ov] (getMethod ov m pl)
      callWith pos f first (backTo pos (starEach (e :: es) X.env)) (backToKw pos (keywordEach [] X.env))) := by rfl) :
    PE X (.Call (.Attribute o m apos) (e :: es) [] pos) (tMethS C m sp (WE W) ta t) := by
  obtain ⟨f, fd, ps, F, at_, i, kp, b⟩ := c.ex
  refine ⟨fun pins s σ H Q I h => PySem.W.methodCall_KW (pl := pl) (thn (he.run pins s σ H _ I h) fun u s1 ⟨x, H1, I1, rx, a, dx, fs, ex, ea, l, q⟩ => ?_) ht⟩
  subst ex
  obtain rfl : u = Value.ref a := rx
  refine getmeth_ok I1 ea cl ⟨at_, i, kp⟩ l (PySem.W.callWith_K (first := [.ref a]) (h₀ := X.base) I.ok.mod.kin kp (thn (ha.run pos pins s1 σ H1 _ I1 q) fun us s2 ⟨vs, H2, I2, r, q2⟩ => ⟨I2.kIn, ?_⟩) hst hpl)
  exact run_fnS (E := WE W) (us := .ref a :: us) (vs := .ref a :: vs) F (hr.mono hk) b (passAt tk σ) I2 (.cons rfl r) q2
end
end Jg
namespace Jg
open PySem PySem.Spec PyProof.Rows L2 PySem.W
section
variable {prog : Program} {w : World} {A : Around} {E : Value → Shared → Prop} {s : Shared} {K : Frag} {x C f : Addr} {ox : Obj} {od : Option Obj} {b tb : Value}
theorem ne_entry {Q : Fin → Shared → Prop} (hu : A.units < cLine) (X : K.In s.heap) (I : InstAt s.heap x ox C od) (eq : findIn K (.ref C) "__eq__" = some (some (.ref f))) (fn : isFn K (.ref f) = true)
    (h : wpAny (model prog w) A (call (.ref f) [.ref x, b]) (fun v s' => ∃ c, v = .bool c ∧ Q (.done (.ret (.bool (!c)))) s') E s) : wpAny (model prog w) A (Builtin.«object.__ne__» ⟨[.ref x, b], []⟩) Q E s := by
  unfold Builtin.«object.__ne__»
  refine wpAny_bind (wpAny_of_eq (a := ((Value.ref x : Value), [b])) (by first | rfl | (simp only [slotArgs]; rfl)) ?_)
  refine wpAny_bind (wpAny_cRoomFor hu ?_)
  refine wpAny_bind (ifBound_K (args := [b]) X I eq fn (wpAny_mono h (fun v s' z => ?_) fun _ _ z => z))
  obtain ⟨c, rfl, q⟩ := z
  refine wpAny_bind (wpAny_truthy_bool ?_)
  exact wpAny_pure q
theorem ne_K {Q : Value → Shared → Prop} (hu : A.units + 1 < cLine) (X : K.In s.heap) (I : InstAt s.heap x ox C od) (hb : Looks (model prog w) s.heap (typeOf b) tb) (hn : notFirst K C tb = true)
    (ne : findIn K (.ref C) "__ne__" = some (some (.builtin "object.__ne__"))) (mro : mroIn K C (.type "object") = some true) (eq : findIn K (.ref C) "__eq__" = some (some (.ref f))) (fn : isFn K (.ref f) = true)
    (h : wpAny (model prog w) A.in1 (call (.ref f) [.ref x, b]) (fun v s' => ∃ c, v = .bool c ∧ Q (.bool (!c)) s') E s) : wpAny (model prog w) A (richCompare .NotEq (.ref x) b) Q E s := by
  have isO : Looks (model prog w) s.heap (isInstance (.ref x) (.type "object")) true := I.type.andThen (looks_mroIn X mro)
  have one : wpAny (model prog w) A (tryCompare (.ref x) (cmpInfo .NotEq).2.1 b) (fun r s' => ∃ v, r = some v ∧ Q v s') E s := by
    unfold tryCompare
    refine wpAny_bind ?_
    show wpAny _ _ (callSpecialIfBound? (.ref x) "__ne__" [b]) _ _ _
    simp only [callSpecialIfBound?, bindSpecialIfBound?]
    refine wpAny_holding (wpAny_bind (wpAny_bind (wpAny_bind (I.type.here ((looks_findIn X ne).here ?_)))))
    refine wpAny_bind (wpAny_askSetting (wpAny_ite ?_))
    have fin : ∀ R : Option Value → Shared → Prop, (∀ c s', Q (.bool (!c)) s' → R (some (.bool (!c))) s') → wpAny (model prog w) A (call (.builtin "object.__ne__") ([.ref x] ++ [b]) >>= fun v => pure (some v)) R E s := by
      intro R hR
      refine wpAny_bind (wpAny_call (codeAny_call_builtin F.cmp_object.ne.plain F.cmpEntry_ne (check_slot F.cmpKind_ne F.cmpSplit_ne isO (F.cmpArgs_ne _ _) ?_)))
      refine ne_entry (A := A.in1) hu X I eq fn (wpAny_mono h (fun v s' z => ?_) fun _ _ z => z)
      obtain ⟨c, rfl, q⟩ := z
      exact ⟨c, rfl, wpAny_pure (hR c s' q)⟩
    rw [F.cmp_object.ne.bind (.ref x)]
    split
    · refine wpAny_bind (wpAny_pure (wpAny_pure ?_))
      exact fin _ fun c s' q => wpAny_pure ⟨_, rfl, q⟩
    · refine wpAny_tryCatch (wpAny_bind (wpAny_pure (wpAny_pure ?_)))
      exact fin _ fun c s' q => wpAny_pure ⟨_, rfl, q⟩
  unfold richCompare
  simp only [oneThing_ref]
  refine wpAny_holding (wpAny_bind (wpAny_cRoomFor (Nat.lt_of_succ_lt hu) ?_))
  refine wpAny_bind (I.type.here (wpAny_bind (hb.here ?_)))
  have fin : ∀ s', (∃ v, (∃ r, r = some v ∧ Q v s')) → True := fun _ _ => trivial
  split
  · rename_i q
    have e : subIn K tb (.ref C) = some false := by
      rcases Bool.or_eq_true_iff.mp hn with e | e
      · rw [beq_iff_eq.mp e] at q; simp at q
      · exact beq_iff_eq.mp e
    refine wpAny_bind ((looks_subIn X e).here ?_)
    simp only [Bool.false_eq_true, if_false]
    refine wpAny_bind (wpAny_mono one (fun r s' ⟨v, e, hq⟩ => ?_) fun _ _ e => e)
    subst e
    exact wpAny_pure hq
  · refine wpAny_bind (wpAny_pure ?_)
    simp only [Bool.false_eq_true, if_false]
    refine wpAny_bind (wpAny_mono one (fun r s' ⟨v, e, hq⟩ => ?_) fun _ _ e => e)
    subst e
    exact wpAny_pure hq
end
/-- x != y by the own == of x -/
def rOwnNe (K : PySem.W.Frag) (C : Addr) (sp : Sp) (E : XK) : R2 := fun x y H Q => ∃ a dx fs t, x = .ref a ∧ H a = some (.ins C dx fs) ∧ TyX K H y t ∧ PySem.W.notFirst K C t = true ∧ sp [.ref a, y] H (fun v H' => ∃ c, v = .bl c ∧ Q (.bl (!c)) H') E
theorem op_ne_c {X : Cx} {k j : Nat} {C : Addr} {sp : Sp} (c : Met X.prog X.w X.K X.mg X.base CX0 k C "__eq__" sp) (ne : PySem.W.findIn X.K (.ref C) "__ne__" = some (some (.builtin "object.__ne__"))) (mro : PySem.W.mroIn X.K C (.type "object") = some true) (hr : Room j X.A) (hk : k + 1 ≤ j) :
    OpR X (compareOp .NotEq) (rOwnNe X.K C sp E0) := by
  intro pins s σ H x y v u Q I rx ry h
  obtain ⟨f, fd, ps, F, a0, i0, kp, bd⟩ := c.ex
  obtain ⟨a, dx, fs, t, rfl, ha, ty, nf, q⟩ := h
  cases rx
  obtain ⟨mA, J, _⟩ := ins_get I.hok ha
  obtain ⟨od, J, _⟩ := J.look
  obtain ⟨P, Z, p, _⟩ := kit_of I ry ty
  have rm : Room (k + 1) X.A := hr.mono hk
  show wpAny _ _ (richCompare .NotEq (.ref a) u) _ _ _
  have ln : [Value.ref a, u].length = ps.length := (Paired.length (show Vals [V.ref a, y] [Value.ref a, u] from .cons rfl (.cons ry .nil))).symm.trans (F.len _ _ _ _ q)
  have bb := bd s [Value.ref a, u] I.kIn (by rw [List.append_nil]; exact ln)
  rw [List.append_nil] at bb
  have rr : Vals [V.ref a, y] [Value.ref a, u] := .cons rfl (.cons ry .nil)
  have run := F.run X.A.in1 X.stack s H ⟨[Value.ref a, u], []⟩ _ _ _ E0 rm.in1 I.env0.in1 bb rr q
  refine ne_K (tb := t) (Nat.lt_of_le_of_lt (by omega) hr.units) I.kIn J (Z.ty _ _ I.kIn p) nf ne mro a0 i0 (wpAny_call (codeAny_mono run fun o s2 z => ?_))
  match o, z with
  | .error err, z => exact z.elim
  | .ok (.ret u2), z =>
    obtain ⟨v3, H2, J3, rv3, cc, rfl, q3⟩ := I.after z
    cases rv3
    exact ⟨_, rfl, .bl _, H2, J3, rfl, q3⟩
/-- data, {} among it -/
def DpX (K : PySem.W.Frag) (H : Hp) (v : V) (d : PyData) : Prop := Dp K H v d ∨ ∃ a, v = .ref a ∧ H a = some (.dK []) ∧ d = .dict []
theorem DpX.reads {X : Cx} {pins : List (Addr × Obj)} {σ : L2.St} {H : Hp} {s : Shared} (I : Inv X pins σ H s) {d : PyData} {v : V} {u : Value} (h : DpX X.K H v d) (r : RelV v u) : ∃ as, Reads s.heap u d as := by
  rcases h with h | ⟨a, rfl, e, rfl⟩
  · exact Dp.reads I d v u h r
  · cases r
    obtain ⟨as, z, _⟩ := dk_nil I.hok e
    exact ⟨as, z⟩
end Jg
namespace Jg
open PySem PySem.Spec PyProof.Rows L2 PySem.W
def tOpS (r : L2.St → R2) (ta tb : TE) : TE := fun σ H Q => ta σ H fun x H1 => tb σ H1 fun y H2 => r σ x y H2 Q
end Jg
namespace Jg
open PySem PySem.Spec PyProof.Rows L2
end Jg
namespace Jg
open PySem PySem.Spec PyProof.Rows L2
def wKey (e : Int × Value) : Str := match e.2 with | .str z _ => z | _ => Str.empty
def IsW (P : Program) (w : World) (e : Int × Value) : Prop := ∃ z tk, e.2 = Value.str z tk ∧ e.1 = (strKind P w).hash z
/-- the set of the texts zs, each once, in any order -/
def SetW (P : Program) (w : World) (h : Heap) (a : Addr) (zs : List Str) : Prop := ∃ o es ep t, h.get? a = some o ∧ o.ExactSet ∧ o.data = .set es ep t ∧ (∀ e ∈ es.toList, IsW P w e) ∧ (es.toList.map wKey).Perm zs ∧ zs.Nodup ∧ zs.length < scanBound ∧
  t.fits es.size = true ∧ Ris t.place.toList ∧ (w.params.followText "set-order" = true ∨ t.led = true)
section
variable {P : Program} {w : World} {h h' : Heap} {a : Addr} {zs : List Str}
theorem SetW.move (R : SetW P w h a zs) (k : ∀ o, h.get? a = some o → h'.get? a = some o) : SetW P w h' a zs :=
  let ⟨o, es, ep, t, ho, r⟩ := R
  ⟨o, es, ep, t, k o ho, r⟩
theorem SetW.cast {ys : List Str} (R : SetW P w h a zs) (e : zs = ys) : SetW P w h a ys := e ▸ R
theorem isW_key {e : Int × Value} (g : IsW P w e) (z : Str) : (strKind P w).is z e.2 = true ↔ wKey e = z := by
  obtain ⟨y, tk, e2, _⟩ := g
  have e3 : wKey e = y := by unfold wKey; rw [e2]
  rw [e3, e2]
  constructor
  · exact fun q => (strKind P w).inj _ _ _ (strKind_is P w y tk) q
  · intro q
    rw [← q]
    exact strKind_is P w y tk
theorem isW_elems {l : List (Int × Value)} (g : ∀ e ∈ l, IsW P w e) : ElemsOf (strKind P w) l := fun e he =>
  let ⟨z, tk, e1, e2⟩ := g e he
  ⟨⟨z, e1 ▸ strKind_is P w z tk, e2⟩, by rw [e1]; rfl⟩
end
section
variable {P : Program} {w : World} {A : Around} {E : Value → Shared → Prop} {s : Shared} {a : Addr} {zs : List Str}
/-- the entries are laid, the table may grow -/
theorem setW_lay {f : Bool → Sem Unit} (pf : ∀ (b : Bool) (s1 : Shared) (K : Unit → Shared → Prop), K () s1 → wpAny (model P w) A (f b) K E s1) {o : Obj} {es xs : Array (Int × Value)} {ep : Nat} {t t2 : SetTable} {ys : List Str} (at_ : s.heap.get? a = some o) (ex : o.ExactSet)
    (dt : o.data = .set es ep t) (gd : ∀ e ∈ xs.toList, IsW P w e) (pm : (xs.toList.map wKey).Perm ys) (nd : ys.Nodup) (few : ys.length < scanBound) (ft : t2.fits xs.size = true) (ri : Ris t2.place.toList) (ld : w.params.followText "set-order" = true ∨ t2.led = true) {dum : Bool}
    {R : Option Bool → Shared → Prop} (k : ∀ h', Heap.SameBut a s.heap h' → SetW P w h' a ys → R (some true) { s with heap := h' }) :
    wpAny (model P w) A (do
        storeSet a xs t2
        if (!dum && t2.tooFull) = true then do
            f (relayAll t2 xs (SetTable.grown xs.size)).2.2
            storeSet a (relayAll t2 xs (SetTable.grown xs.size)).1 (relayAll t2 xs (SetTable.grown xs.size)).2.1
            pure (some true)
          else pure (some true)) R E s := by
  have many : ∀ u : Array (Int × Value), (u.toList.map wKey).Perm ys → u.size < scanBound := fun u q => by
    have z := q.length_eq
    rw [List.length_map, Array.length_toList] at z
    omega
  refine wpAny_bind (wpAny_storeSet_of at_ dt ?_ (fits_of_scanBound (many xs pm)))
  have w1 := store_at (es' := xs) (t' := t2) at_ dt
  have same1 := Heap.SameBut.update s.heap a (Obj.putSet xs t2)
  split
  · have q1 := relayAll_perm t2 xs (SetTable.grown xs.size)
    have q2 := relayAll_fits t2 xs (SetTable.grown xs.size)
    have q3 := relayAll_ris t2 xs (SetTable.grown xs.size)
    have q4 := relayAll_led t2 xs (SetTable.grown xs.size)
    revert q1 q2 q3 q4
    generalize relayAll t2 xs (SetTable.grown xs.size) = Y
    obtain ⟨us, t3, gv⟩ := Y
    intro q1 q2 q3 q4
    have pm2 : (us.toList.map wKey).Perm ys := (q1.map wKey).trans pm
    refine wpAny_bind (pf _ _ _ (wpAny_bind (wpAny_storeSet_of w1 rfl ?_ (fits_of_scanBound (many us pm2)))))
    refine wpAny_pure (k _ (same1.trans (Heap.SameBut.update _ a _)) ⟨_, us, _, t3, store_at (es' := us) (t' := t3) w1 rfl, ex, rfl, fun e he => gd e (q1.mem_iff.mp he), pm2, nd, few, q2, q3, ?_⟩)
    rcases ld with l | l
    · exact .inl l
    · exact .inr (by rw [← l]; exact q4)
  · exact wpAny_pure (k _ same1 ⟨_, xs, _, t2, w1, ex, rfl, gd, pm, nd, few, ft, ri, ld⟩)
theorem setW_add {z : Str} {tk : Tok} {Q : Bool → Shared → Prop} (R : SetW P w s.heap a zs) (room : zs.length + 1 < scanBound) (k : ∀ b h', Heap.SameBut a s.heap h' → SetW P w h' a (if z ∈ zs then zs else z :: zs) → Q b { s with heap := h' }) :
    wpAny (model P w) A (setAddHashed a (.str z tk) ((strKind P w).hash z)) Q E s := by
  obtain ⟨o, es, ep, t, at_, ex, dt, gd, pm, nd, few, ft, ri, ld⟩ := id R
  have el := isW_elems gd
  have small : es.size < scanBound := by
    have q := pm.length_eq
    rw [List.length_map, Array.length_toList] at q
    omega
  have sc : (Value.str z tk).scannable = true := rfl
  have isz : (strKind P w).is z (.str z tk) = true := strKind_is P w z tk
  unfold setAddHashed setAddHashedIn
  refine wpAny_holding (wpAny_bind (wpAny_setState_of at_ dt ft ?_))
  dsimp only
  rw [byScan_of sc small el]
  simp only [↓reduceIte]
  unfold setAddByScan
  refine wpAny_bind (wpAny_bind (wpAny_rule (wpAny_bind (wpAny_setScan_of isz at_ dt ft el ?_))))
  cases fi : List.findIdx? (fun e => (strKind P w).is z e.2) es.toList with
  | some j =>
    dsimp only
    obtain ⟨lt, yes, _⟩ := List.findIdx?_eq_some_iff_getElem.mp fi
    have mem : z ∈ zs := pm.mem_iff.mp (List.mem_map.mpr ⟨_, List.getElem_mem lt, (isW_key (gd _ (List.getElem_mem lt)) z).mp yes⟩)
    exact wpAny_pure (wpAny_pure (k _ s.heap (Heap.SameBut.refl a s.heap) (R.cast (if_pos mem).symm)))
  | none =>
    dsimp only
    have out : z ∉ zs := fun m => by
      obtain ⟨e, he, q⟩ := List.mem_map.mp (pm.mem_iff.mpr m)
      have c := List.findIdx?_eq_none_iff.mp fi e he
      rw [(isW_key (gd e he) z).mpr q] at c
      cases c
    rw [if_neg out] at k
    have q1 := layNew_perm t es ((strKind P w).hash z) (.str z tk)
    have q2 := layNew_fits t es ((strKind P w).hash z) (.str z tk)
    have q3 := layNew_ris t es ((strKind P w).hash z) (.str z tk) ri
    have q4 := layNew_led t es ((strKind P w).hash z) (.str z tk)
    revert q1 q2 q3 q4
    generalize layNew t es ((strKind P w).hash z) (.str z tk) = Y
    obtain ⟨xs, t1, dum, gv⟩ := Y
    intro q1 q2 q3 q4
    have pc : xs.toList.Perm (((strKind P w).hash z, Value.str z tk) :: es.toList) := by
      have q := q1
      rw [Array.toList_push] at q
      exact q.trans (List.perm_append_singleton _ _)
    have pz : (xs.toList.map wKey).Perm (z :: zs) := (pc.map wKey).trans (List.Perm.cons z pm)
    have gd2 : ∀ e ∈ xs.toList, IsW P w e := fun e he => (List.mem_cons.mp (pc.mem_iff.mp he)).elim (fun q => q ▸ ⟨z, tk, rfl, rfl⟩) (gd e)
    have ld2 : w.params.followText "set-order" = true ∨ t1.led = true := ld.elim .inl fun l => .inr (by rw [← l]; exact q4)
    have few2 : (z :: zs).length < scanBound := room
    refine wpAny_bind ?_
    refine (fun (m : ∀ {K : Unit → Shared → Prop}, K () s → wpAny (model P w) A _ K E s) (r : _) => m r) (fun q => by cases gv <;> first | exact wpAny_pure q | exact wpAny_rule q) ?_
    split
    · refine wpAny_bind ?_
      rw [hashByValue_scannable 8 sc]
      refine wpAny_pure (setW_lay (fun b s1 K q => by cases b <;> first | exact wpAny_pure q | exact wpAny_rule q) at_ ex dt gd2 pz (List.nodup_cons.mpr ⟨out, nd⟩) few2 ?_ ?_ ?_ fun h' sb r => wpAny_pure (k _ h' sb r))
      · first | (split <;> first | exact q2 | exact SetTable.fits_plain_off q2) | exact q2
      · first | (split <;> exact q3) | exact q3
      · first | (split <;> exact ld2) | exact ld2
    · refine wpAny_bind (wpAny_pure ?_)
      simp only [↓reduceIte]
      exact setW_lay (fun b s1 K q => by cases b <;> first | exact wpAny_pure q | exact wpAny_rule q) at_ ex dt gd2 pz (List.nodup_cons.mpr ⟨out, nd⟩) few2 q2 q3 ld2 fun h' sb r => wpAny_pure (k _ h' sb r)
end
theorem addW_len (l : List Str) (z : Str) : (addW l z).length ≤ l.length + 1 := by
  unfold addW
  split
  · omega
  · exact Nat.le_refl _
theorem fold_len : ∀ (ks l : List Str), (ks.foldl addW l).length ≤ l.length + ks.length
  | [], l => Nat.le_refl _
  | z :: r, l => by
    have h1 := fold_len r (addW l z)
    have h2 := addW_len l z
    rw [List.foldl_cons, List.length_cons]
    omega
theorem onceW_len (ks : List Str) : (onceW ks).length ≤ ks.length := by
  have h := fold_len ks []
  rw [List.length_nil, Nat.zero_add] at h
  exact h
theorem fold_mem : ∀ (ks l : List Str) (z : Str), z ∈ ks.foldl addW l ↔ z ∈ l ∨ z ∈ ks
  | [], l, z => by simp
  | y :: r, l, z => by
    rw [List.foldl_cons, fold_mem r]
    unfold addW
    by_cases m : y ∈ l
    · rw [if_pos m, List.mem_cons]
      constructor
      · exact fun q => q.elim .inl fun q => .inr (.inr q)
      · rintro (q | q | q)
        · exact .inl q
        · exact .inl (q ▸ m)
        · exact .inr q
    · rw [if_neg m, List.mem_cons, List.mem_cons]
      constructor
      · rintro ((q | q) | q)
        · exact .inr (.inl q)
        · exact .inl q
        · exact .inr (.inr q)
      · rintro (q | q | q)
        · exact .inl (.inr q)
        · exact .inl (.inl q)
        · exact .inr q
theorem onceW_mem {ks : List Str} {z : Str} : z ∈ onceW ks ↔ z ∈ ks := by
  unfold onceW
  rw [fold_mem]
  simp
theorem onceW_nodup : ∀ (ks l : List Str), l.Nodup → (ks.foldl addW l).Nodup
  | [], _, h => h
  | z :: r, l, h => by
    rw [List.foldl_cons]
    refine onceW_nodup r _ ?_
    unfold addW
    split
    · exact h
    · exact List.nodup_cons.mpr ⟨by assumption, h⟩
/-- as many as there are texts: just if all are different -/
theorem onceW_all : ∀ (ks l : List Str), (ks.foldl addW l).length = l.length + ks.length ↔ ks.Nodup ∧ ∀ z ∈ ks, z ∉ l
  | [], l => ⟨fun _ => ⟨List.Pairwise.nil, fun _ h => nomatch h⟩, fun _ => rfl⟩
  | z :: r, l => by
    have ih := onceW_all r (addW l z)
    have le := fold_len r (addW l z)
    rw [List.foldl_cons, List.length_cons, List.nodup_cons]
    unfold addW at ih le ⊢
    by_cases m : z ∈ l
    · rw [if_pos m] at le ⊢
      constructor
      · intro h; omega
      · intro h
        exact absurd m (h.2 z List.mem_cons_self)
    · rw [if_neg m] at ih le ⊢
      rw [List.length_cons] at ih le
      constructor
      · intro h
        obtain ⟨n, o⟩ := ih.mp (by omega)
        refine ⟨⟨fun q => o z q List.mem_cons_self, n⟩, fun y hy => ?_⟩
        rcases List.mem_cons.mp hy with e | e
        · rw [e]; exact m
        · exact fun q => o y e (List.mem_cons_of_mem _ q)
      · rintro ⟨⟨n1, n2⟩, o⟩
        have := ih.mpr ⟨n2, fun y hy q => (List.mem_cons.mp q).elim (fun e => n1 (e ▸ hy)) (o y (List.mem_cons_of_mem _ hy))⟩
        omega
section
variable {P : Program} {w : World} {A : Around} {E : Value → Shared → Prop} {s : Shared}
theorem setW_new {h : Heap} {a : Addr} (e : h.get? a = some (mtSet w)) : SetW P w h a [] :=
  ⟨_, #[], 0, _, e, ⟨rfl, rfl, rfl⟩, rfl, (fun _ q => absurd q (by simp)), List.Perm.nil, List.Pairwise.nil, by decide, by rfl, List.Pairwise.nil, by
    show _ ∨ (!w.params.followText "set-order") = true
    cases w.params.followText "set-order" with
    | true => exact .inl rfl
    | false => exact .inr rfl⟩
/-- the loop behind set(x), over texts -/
theorem words_loop {it st : Addr} {fp wr : List Addr} {G : Array GenState → Array GenState → Prop} {m : Nat} {Pv : Nat → Value → Prop} {At : Nat → Shared → Prop} {R : Result → Shared → Prop} (T : WalksS P w A.in1 it fp wr G m Pv At) (off : st ∉ fp) (ks : List Str) (em : m = ks.length)
    (few : ks.length + 1 < scanBound) (vals : ∀ i v, Pv i v → ∃ z t, ks[i]? = some z ∧ v = .str z t) :
    ∀ (left i : Nat) (s : Shared), m - i = left → i ≤ m → At i s → SetW P w s.heap st (onceW (ks.take i)) → (∀ q, Moved (st :: wr) G s q → SetW P w q.heap st (onceW ks) → R (.ok (.ret .none)) q) →
      codeAny (model P w) A (.builtin "set.update.loop" ⟨[.ref st, .ref it], []⟩) R s := by
  have offw : st ∉ wr := fun z => off (T.sub _ z)
  have up : ∀ b ∈ wr, b ∈ st :: wr := fun _ z => List.mem_cons_of_mem _ z
  intro left
  induction left with
  | zero =>
    intro i s e le at_ W k
    obtain rfl : i = m := by omega
    refine codeAny_builtin F.entry_set_update_loop ?_
    rw [Around.under_plainId F.plain_set_update_loop _]
    refine wpAny_bind (m := pyNext (.ref it)) (T.done s _ _ at_ fun q mv => ?_)
    have all : ks.take i = ks := List.take_of_length_le (by omega)
    rw [all] at W
    exact wpAny_pure (k q (mv.mono up) (W.move fun o e => mv.heap st o offw e))
  | succ left ih =>
    intro i s e le at_ W k
    have lt : i < m := by omega
    refine codeAny_builtin F.entry_set_update_loop ?_
    rw [Around.under_plainId F.plain_set_update_loop _]
    refine wpAny_bind (m := pyNext (.ref it)) (T.item i s _ _ lt at_ fun v q pv at2 mv => ?_)
    obtain ⟨z, t, ez, rfl⟩ := vals i v pv
    have W2 : SetW P w q.heap st (onceW (ks.take i)) := W.move fun o e => mv.heap st o offw e
    refine wpAny_bind (m := holding [Value.str z t] (setAdd st (.str z t))) (wpAny_holding ?_)
    unfold setAdd
    refine wpAny_holding (wpAny_bind ((strKind P w).pyHash (k := z) (strKind_is _ _ _ _) ?_))
    have room : (onceW (ks.take i)).length + 1 < scanBound := by
      have h1 := onceW_len (ks.take i)
      rw [List.length_take] at h1
      omega
    refine setW_add (s := { q with toks := q.toks + 1 }) W2 room fun b h2 sb W3 => ?_
    have nx : (if z ∈ onceW (ks.take i) then onceW (ks.take i) else z :: onceW (ks.take i)) = onceW (ks.take (i + 1)) := by
      have e1 : ks.take (i + 1) = ks.take i ++ [z] := by rw [List.take_add_one, ez]; rfl
      rw [e1]
      unfold onceW
      rw [List.foldl_append]
      rfl
    rw [nx] at W3
    have still : ∀ c, c ≠ st → ∀ o, q.heap.get? c = some o → h2.get? c = some o := fun c n o e => by rw [sb.2 c n]; exact e
    refine wpAny_pure ⟨plainId_quiet F.plain_set_update_loop _, ih (i + 1) _ (by omega) lt (T.frame _ q _ _ at2 (Nat.le_succ _) fun c hc o e => still c (fun n => off (n ▸ hc)) o e) W3 fun y mv2 Wy => k y ?_ Wy⟩
    exact Moved.trans T.gtrans ((mv.mono up).then_heap (Nat.le_succ _) fun c o hc e => still c (fun n => hc (n ▸ List.mem_cons_self)) o e) mv2
end
section
variable {P : Program} {w : World} {A : Around} {E : Value → Shared → Prop} {s : Shared}
/-- what stands behind set(x) of texts -/
abbrev WordsDone (P : Program) (w : World) (s : Shared) (ks : List Str) (s₂ : Shared) : Prop :=
  ∃ h' tk, s₂ = { s with heap := h', toks := tk } ∧ SetW P w h' s.heap.objs.size (onceW ks) ∧ ∀ b o, s.heap.get? b = some o → h'.get? b = some o
set_option maxHeartbeats 8000000 in
theorem set_of_words {l : Addr} {items : Array Value} (ks : List Str) {Q : Value → Shared → Prop} (hh : A.handled = none) (hl : s.heap.IsList l items) (hsz : items.size = ks.length) (hit : ∀ (i : Nat) (v : Value), items[i]? = some v → ∃ z t, ks[i]? = some z ∧ v = .str z t) (hb : ks.length + 1 < scanBound)
    (h : ∀ s₂, WordsDone P w s ks s₂ → Q (.ref s.heap.objs.size) s₂) : wpAny (model P w) A (call (.type "set") [.ref l]) Q E s := by
  obtain ⟨c, tl, hmro⟩ := F.called_set.mro
  have m1 := F.called_set.made
  have m2 := F.called_set.sub
  have m3 := F.called_set.notType
  have m4 := F.called_set.canCreate
  have m5 := F.typeCall_set_1 (.ref l)
  refine wpAny_call (codeAny_of_tree (show wpAny _ _ (callAny (.type "set") _) _ _ _ from wpAny_pure ⟨Code.quiet_builtin _ (by decide +kernel), codeAny_builtin F.entry_type_call ?_⟩))
  rw [Around.under_plain (weight_type_call_type "set" [.ref l] []) rfl]
  repeat (any_goals (first | assumption | wp_step))
  refine codeAny_mono (code_set_led1 (.ref l) (E := E) (Q₁ := fun obj s₁ => obj = .ref s.heap.objs.size ∧ s₁ = { s with heap := s.heap.push (mtSet w) }) ⟨rfl, rfl⟩) fun r s₁ hr => ?_
  match r, hr with
  | .error e, hr => exact hr
  | .ok (.ret obj), hr =>
    obtain ⟨rfl, rfl⟩ := hr
    have new := mt_at w s.heap
    have ty : Shared.TypeIs { s with heap := s.heap.push (mtSet w) } (.ref s.heap.objs.size) "set" := ⟨_, new, rfl⟩
    have m6 := F.called_set.init.lookup
    have m7 := F.called_set.init.bind (.ref s.heap.objs.size)
    repeat (any_goals (first | assumption | wp_step))
    refine codeAny_mono (codeAny_call_builtin (R := wants (fun r s₂ => r = .none ∧ WordsDone P w s ks s₂) E) F.called_set.init.plain F.entry_set_init (check_set_init_1 ty ?_)) fun r₂ s₂ hr₂ => ?_
    · obtain ⟨⟨ocls, odict, odata, oslots⟩, hol, hcl, nl, hdl⟩ := hl
      simp only at hcl hdl
      subst hcl; subst hdl
      have lt : l < s.heap.objs.size := Heap.lt_size hol
      have old : (s.heap.push (mtSet w)).get? l = some { cls := .type "list", dict := odict, data := .seq items nl, slots := oslots } := Heap.get?_push_of_some _ hol
      have il : (s.heap.push (mtSet w)).IsList l items := ⟨_, old, rfl, nl, rfl⟩
      have n1 := F.sub_list_set
      have n2 := F.sub_list_frozenset
      have n3 : (Value.type "list" == Value.type "dict") = false := by decide
      have sz : (s.heap.push (mtSet w)).objs.size = s.heap.objs.size + 1 := Heap.size_push ..
      unfold Builtin.«set.__init__» noKeywords Builtin.Frozenset.updateFrom
      generalize hPI : pyIter = PI
      wp_walk
      subst hPI
      refine wpAny_pyIter_list il (wpAny_bind (wpAny_runValue ?_))
      have apart : l ≠ (s.heap.push (mtSet w)).objs.size := by rw [sz]; exact Nat.ne_of_lt (Nat.lt_succ_of_lt lt)
      refine words_loop (P := P) (w := w) ((Walks.list (show A.in1.in1.in1.handled = none by simp [hh]) _ l apart items).toS) (st := s.heap.objs.size) ?_ ks hsz hb hit (items.size - 0) 0 _ (by omega) (Nat.zero_le _)
        ⟨⟨_, Heap.get?_push_size _ rfl, rfl, rfl⟩, il.push _⟩ (setW_new (Heap.get?_push_of_some _ new)) fun s' hm hS' => ?_
      · rw [sz]
        intro z
        rcases List.mem_cons.mp z with z | z
        · exact absurd z (Nat.ne_of_lt (Nat.lt_succ_self _))
        · rcases List.mem_cons.mp z with z | z
          · exact absurd z (Nat.ne_of_gt lt)
          · cases z
      · obtain ⟨h', g2, d', tk', os'⟩ := s'
        obtain rfl : g2 = s.gens := hm.gens
        obtain rfl : d' = s.drawn := hm.drawn
        obtain rfl : os' = s.os := hm.os
        refine wpAny_pure (show wpAny _ _ (ret Value.none) _ _ _ from wpAny_pure ⟨rfl, h', tk', rfl, hS', fun b o e => ?_⟩)
        have lb : b < s.heap.objs.size := Heap.lt_size e
        refine hm.heap b o (fun z => ?_) (Heap.get?_push_of_some _ (Heap.get?_push_of_some _ e))
        rcases List.mem_cons.mp z with z | z
        · exact absurd z (Nat.ne_of_lt lb)
        · rcases List.mem_cons.mp z with z | z
          · rw [sz] at z
            exact absurd z (Nat.ne_of_lt (Nat.lt_succ_of_lt lb))
          · cases z
    · match r₂, hr₂ with
      | .error e, hr₂ => exact hr₂
      | .ok (.ret r), hr₂ =>
        obtain ⟨rfl, done⟩ := hr₂
        repeat (any_goals (first | assumption | wp_step))
        exact h _ done
end
end Jg
namespace Jg
open PySem PySem.Spec PyProof.Rows L2
/-- the set of the texts zs at a -/
def SetWO (P : Program) (w : World) (a : Addr) (zs : List Str) : HO := .ext fun h => SetW P w h a zs
theorem setW_ok {w : World} {P : Program} {H : Hp} {h : Heap} {a : Addr} {zs : List Str} (R : SetW P w h a zs) : ObjOk P w H h a (SetWO P w a zs) := by
  have ⟨o, _, _, _, ho, _⟩ := R
  exact ⟨R, ⟨o, ho⟩, fun h1 h2 p k => SetW.move p k⟩
section
variable {X : Cx}
theorem setW_get {pins : List (Addr × Obj)} {σ : L2.St} {H : Hp} {s : Shared} {a : Addr} {zs : List Str} (I : Inv X pins σ H s) (e : H a = some (SetWO X.prog X.w a zs)) : SetW X.prog X.w s.heap a zs := (I.hok a _ e).1
/-- set(xs) of a list of texts -/
def rSetW (X : Cx) : List V → Hp → VK → Prop := fun xs H Q => ∃ (a : Addr) (ks : List Str), xs = [.ref a] ∧ SqL X.K H a (ks.map V.str) ∧ ks.length + 1 < scanBound ∧ ∀ p, H p = none → Q (.ref p) (upd H p (SetWO X.prog X.w p (onceW ks)))
theorem strs_at {ks : List Str} : ∀ {us : List Value}, Vals (ks.map V.str) us → us.length = ks.length ∧ ∀ (i : Nat) (v : Value), us[i]? = some v → ∃ z t, ks[i]? = some z ∧ v = .str z t := by
  induction ks with
  | nil =>
    intro us r
    cases r
    exact ⟨rfl, fun i v h => by simp at h⟩
  | cons z ks ih =>
    intro us r
    rw [List.map_cons] at r
    cases r with
    | cons r1 r2 =>
      obtain ⟨t, e⟩ := r1
      obtain ⟨h1, h2⟩ := ih r2
      refine ⟨by rw [List.length_cons, List.length_cons, h1], fun i v h => ?_⟩
      cases i with
      | zero => exact ⟨z, t, rfl, by rw [← e]; exact (Option.some.inj h).symm⟩
      | succ i => exact h2 i v h
theorem cr_setW (hc : X.calm = true) : CallR X (.type "set") (rSetW X) := by
  intro pins s σ H xs us Q I r h
  obtain ⟨a, ks, rfl, hs, few, q⟩ := h
  obtain ⟨u, rfl, ru⟩ := vals1 r
  cases ru
  obtain ⟨its, rv, p, _⟩ := I.list hs
  obtain ⟨ln, at_⟩ := strs_at rv
  refine set_of_words ks (I.ok.hd hc) p.isList (by simpa using ln) (fun i v h => at_ i v (by simpa using h)) few fun s₂ ⟨h', tk, e, R, k⟩ => ?_
  subst e
  exact ⟨.ref s.heap.objs.size, _, I.laid (t' := tk) k (Nat.le_refl _) (setW_ok R), rfl, q _ (I.hok.fresh (Nat.le_refl _))⟩
end
section
variable {P : Program} {w : World} {A : Around} {E : Value → Shared → Prop} {s : Shared} {a : Addr} {zs : List Str}
theorem strs_of : ∀ l : List Value, (∀ v ∈ l, ∃ z t, v = Value.str z t) → ∃ ys : List Str, StrsAre l ys ∧ ∀ f : Value → Str, (∀ z t, f (.str z t) = z) → l.map f = ys
  | [], _ => ⟨[], .nil, fun _ _ => rfl⟩
  | v :: l, h => by
    obtain ⟨z, t, e⟩ := h v List.mem_cons_self
    obtain ⟨ys, h1, h2⟩ := strs_of l fun u hu => h u (List.mem_cons_of_mem _ hu)
    subst e
    exact ⟨z :: ys, .cons z t h1, fun f hf => by rw [List.map_cons, hf, h2 f hf]⟩
def txtOf (v : Value) : Str := match v with | .str z _ => z | _ => Str.empty
theorem sorted_words {Q : Value → Shared → Prop} (R : SetW P w s.heap a zs) (hh : A.handled = none) (few : zs.length < 64)
    (k : ∀ s' p (out : Array Value) (c : Nat) (ys : List Str), (∀ b o, s.heap.get? b = some o → s'.heap.get? b = some o) → s'.gens = s.gens → s'.os = s.os → s.heap.objs.size ≤ p → s'.heap.get? p = some (seqObj "list" out c) → StrsAre out.toList ys → ys.Perm zs → sortedS ys = true → Q (.ref p) s') :
    wpAny (model P w) A (call (.builtin "sorted") [.ref a]) Q E s := by
  obtain ⟨o, es, ep, t, at_, ex, dt, gd, pm, nd, fw, ft, ri, ld⟩ := R
  have small : es.size = zs.length := by
    have q := pm.length_eq
    rw [List.length_map, Array.length_toList] at q
    exact q
  refine Calls.call_function_entry kind_sorted plain_sorted entry_sorted (args_sorted1 _) ?_
  unfold Builtin.«sorted»
  refine wpAny_bind (m := checkCount "sorted" 1 1 _) (wpAny_pure (wpAny_bind (collect_set (A := A.in1) hh ⟨o, at_, ex.1, dt⟩ ft (by rw [small]; exact fw) ri ld fun s1 vs k1 up g1 o1 perm => ?_)))
  have len : vs.length = zs.length := by rw [perm.length_eq, List.length_map, Array.length_toList, small]
  obtain ⟨ys, sa, ym⟩ := strs_of vs fun v hv => by
    obtain ⟨e, he, q⟩ := List.mem_map.mp (perm.mem_iff.mp hv)
    obtain ⟨z, tk, e1, _⟩ := gd e he
    exact ⟨z, tk, by rw [← q]; exact e1⟩
  have py : ys.Perm zs := by
    have q := perm.map txtOf
    rw [ym txtOf fun _ _ => rfl, List.map_map] at q
    exact q.trans pm
  refine wpAny_bind (wpAny_newList ?_ (by rw [len, sizeLine_eq]; omega))
  have new : (s1.heap.push (seqObj "list" vs.toArray 0)).get? s1.heap.objs.size = some (seqObj "list" vs.toArray 0) := Heap.get?_push_size _ rfl
  refine wpAny_bind (wpAny_holding (wpAny_call_entry slot_list_sort ⟨_, new, rfl⟩ entry_list_sort
    (list_sort_treeK strKind_oneLt new sa.keysOf (fun v₁ v₂ rest e => keyKind_strs (by rw [← e]; exact sa)) (by rw [len]; exact few) fun st' hp hs => ⟨_, rfl, ?_⟩) (args_list_sort _)))
  obtain ⟨ss, g2, g3, g4⟩ := sorted_out_str sa hp hs
  obtain ⟨c, hc⟩ := sortedHeap_at (vs := vs) (out := (arrOf st').map (·.2)) new
  refine wpAny_pure ⟨_, rfl, k _ s1.heap.objs.size _ c ss (fun b u e => ?_) g1 o1 up hc g2 (g3.trans py) g4⟩
  have q := k1 b u e
  have lt := Heap.lt_size q
  show (sortedHeap (s1.heap.push (seqObj "list" vs.toArray 0)) s1.heap.objs.size vs _).get? b = some u
  rw [sortedHeap_old (Nat.ne_of_lt lt) (by rw [Heap.size_push]; exact Nat.lt_succ_of_lt lt)]
  exact Heap.get?_push_of_some _ q
end
/-- sorted(words) of a set -/
def rSortW (X : Cx) : List V → Hp → VK → Prop := fun vs H Q => ∃ (a : Addr) (zs : List Str), vs = [V.ref a] ∧ H a = some (SetWO X.prog X.w a zs) ∧ zs.length < 64 ∧ ∀ (ys : List Str) (p : Addr), ys.Perm zs → sortedS ys = true → H p = none → Q (.ref p) (upd H p (.lst (ys.map V.str)))
theorem cr_sortW {X : Cx} (hc : X.calm = true) : CallR X (.builtin "sorted") (rSortW X) := by
  intro pins s σ H vs us Q I r h
  obtain ⟨a, zs, rfl, ha, few, q⟩ := h
  have R := setW_get I ha
  rw [Vals.ref1 r]
  refine sorted_words R (I.ok.hd hc) few fun s' p out c ys k g o up e sa pm so => ?_
  have len : (ys.map V.str).length ≤ sizeLine := by rw [List.length_map, pm.length_eq, sizeLine_eq]; omega
  have nw : H p = none := I.hok.fresh up
  have J : Inv X pins σ (upd H p (.lst (ys.map V.str))) { s with heap := s'.heap, gens := s'.gens, drawn := s'.drawn, toks := s'.toks } :=
    I.call (ch := []) (Un.laid k up nw) (I.hok.laid k up ⟨len, out.toList, c, vals_of_strs sa, e⟩) (by rw [g]; exact I.bare) fun _ z => nomatch z
  have es : s' = { s with heap := s'.heap, gens := s'.gens, drawn := s'.drawn, toks := s'.toks } := by
    cases s'
    cases s
    cases o
    rfl
  rw [es]
  exact ⟨.ref p, _, J, rfl, q ys p pm so nw⟩
/-- len of a set of texts -/
def rLenW (X : Cx) : List V → Hp → VK → Prop := fun xs H Q => ∃ (a : Addr) (zs : List Str), xs = [.ref a] ∧ H a = some (SetWO X.prog X.w a zs) ∧ Q (.int zs.length) H
theorem call_lenW {X : Cx} : CallR X (.builtin "len") (rLenW X) := by
  intro pins s σ H xs us Q I r h
  obtain ⟨a, zs, rfl, ha, q⟩ := h
  rw [Vals.ref1 r]
  obtain ⟨o, es, ep, t, at_, ex, dt, gd, pm, nd, fw, ft, _⟩ := setW_get I ha
  have n : es.size = zs.length := by
    have z := pm.length_eq
    rw [List.length_map, Array.length_toList] at z
    exact z
  have small : scanBound < 2 ^ 62 := by decide
  have e : ((es.size : Nat) : Int) = ((zs.length : Nat) : Int) := by rw [n]
  exact PySem.call_len_set at_ ex dt ft (by rw [n]; omega) (e ▸ ⟨.int zs.length, H, I.tok _, ⟨_, rfl⟩, q⟩)
end Jg
namespace Jg
open PySem PySem.Spec PyProof.Rows L2
section
variable {P : Program} {w : World} {A : Around} {E : Value → Shared → Prop} {s : Shared}
set_option maxHeartbeats 8000000 in
theorem set_of_wordsT {l : Addr} {items : Array Value} (ks : List Str) {Q : Value → Shared → Prop} (hh : A.handled = none) (hl : s.heap.IsTuple l items) (hsz : items.size = ks.length) (hit : ∀ (i : Nat) (v : Value), items[i]? = some v → ∃ z t, ks[i]? = some z ∧ v = .str z t) (hb : ks.length + 1 < scanBound)
    (h : ∀ s₂, WordsDone P w s ks s₂ → Q (.ref s.heap.objs.size) s₂) : wpAny (model P w) A (call (.type "set") [.ref l]) Q E s := by
  obtain ⟨c, tl, hmro⟩ := F.called_set.mro
  have m1 := F.called_set.made
  have m2 := F.called_set.sub
  have m3 := F.called_set.notType
  have m4 := F.called_set.canCreate
  have m5 := F.typeCall_set_1 (.ref l)
  refine wpAny_call (codeAny_of_tree (show wpAny _ _ (callAny (.type "set") _) _ _ _ from wpAny_pure ⟨Code.quiet_builtin _ (by decide +kernel), codeAny_builtin F.entry_type_call ?_⟩))
  rw [Around.under_plain (weight_type_call_type "set" [.ref l] []) rfl]
  repeat (any_goals (first | assumption | wp_step))
  refine codeAny_mono (code_set_led1 (.ref l) (E := E) (Q₁ := fun obj s₁ => obj = .ref s.heap.objs.size ∧ s₁ = { s with heap := s.heap.push (mtSet w) }) ⟨rfl, rfl⟩) fun r s₁ hr => ?_
  match r, hr with
  | .error e, hr => exact hr
  | .ok (.ret obj), hr =>
    obtain ⟨rfl, rfl⟩ := hr
    have new := mt_at w s.heap
    have ty : Shared.TypeIs { s with heap := s.heap.push (mtSet w) } (.ref s.heap.objs.size) "set" := ⟨_, new, rfl⟩
    have m6 := F.called_set.init.lookup
    have m7 := F.called_set.init.bind (.ref s.heap.objs.size)
    repeat (any_goals (first | assumption | wp_step))
    refine codeAny_mono (codeAny_call_builtin (R := wants (fun r s₂ => r = .none ∧ WordsDone P w s ks s₂) E) F.called_set.init.plain F.entry_set_init (check_set_init_1 ty ?_)) fun r₂ s₂ hr₂ => ?_
    · obtain ⟨⟨ocls, odict, odata, oslots⟩, hol, hcl, nl, hdl⟩ := hl
      simp only at hcl hdl
      subst hcl; subst hdl
      have lt : l < s.heap.objs.size := Heap.lt_size hol
      have old : (s.heap.push (mtSet w)).get? l = some { cls := .type "tuple", dict := odict, data := .seq items nl, slots := oslots } := Heap.get?_push_of_some _ hol
      have il : (s.heap.push (mtSet w)).IsTuple l items := ⟨_, old, rfl, nl, rfl⟩
      have n1 := F.sub_tuple_set
      have n2 := F.sub_tuple_frozenset
      have n3 : (Value.type "tuple" == Value.type "dict") = false := by decide
      have sz : (s.heap.push (mtSet w)).objs.size = s.heap.objs.size + 1 := Heap.size_push ..
      unfold Builtin.«set.__init__» noKeywords Builtin.Frozenset.updateFrom
      generalize hPI : pyIter = PI
      wp_walk
      subst hPI
      refine wpAny_pyIter_tuple il (wpAny_bind (wpAny_runValue ?_))
      have apart : l ≠ (s.heap.push (mtSet w)).objs.size := by rw [sz]; exact Nat.ne_of_lt (Nat.lt_succ_of_lt lt)
      refine words_loop (P := P) (w := w) ((Walks.tuple (show A.in1.in1.in1.handled = none by simp [hh]) _ l apart items).toS) (st := s.heap.objs.size) ?_ ks hsz hb hit (items.size - 0) 0 _ (by omega) (Nat.zero_le _)
        ⟨⟨_, Heap.get?_push_size _ rfl, rfl, rfl⟩, il.push _⟩ (setW_new (Heap.get?_push_of_some _ new)) fun s' hm hS' => ?_
      · rw [sz]
        intro z
        rcases List.mem_cons.mp z with z | z
        · exact absurd z (Nat.ne_of_lt (Nat.lt_succ_self _))
        · rcases List.mem_cons.mp z with z | z
          · exact absurd z (Nat.ne_of_gt lt)
          · cases z
      · obtain ⟨h', g2, d', tk', os'⟩ := s'
        obtain rfl : g2 = s.gens := hm.gens
        obtain rfl : d' = s.drawn := hm.drawn
        obtain rfl : os' = s.os := hm.os
        refine wpAny_pure (show wpAny _ _ (ret Value.none) _ _ _ from wpAny_pure ⟨rfl, h', tk', rfl, hS', fun b o e => ?_⟩)
        have lb : b < s.heap.objs.size := Heap.lt_size e
        refine hm.heap b o (fun z => ?_) (Heap.get?_push_of_some _ (Heap.get?_push_of_some _ e))
        rcases List.mem_cons.mp z with z | z
        · exact absurd z (Nat.ne_of_lt lb)
        · rcases List.mem_cons.mp z with z | z
          · rw [sz] at z
            exact absurd z (Nat.ne_of_lt (Nat.lt_succ_of_lt lb))
          · cases z
    · match r₂, hr₂ with
      | .error e, hr₂ => exact hr₂
      | .ok (.ret r), hr₂ =>
        obtain ⟨rfl, done⟩ := hr₂
        repeat (any_goals (first | assumption | wp_step))
        exact h _ done
end
/-- set(x) of a list or a tuple of texts -/
def rSetW2 (X : Cx) : List V → Hp → VK → Prop := fun xs H Q => ∃ (a : Addr) (ks : List Str), xs = [.ref a] ∧ (SqL X.K H a (ks.map V.str) ∨ SqT X.K H a (ks.map V.str)) ∧ ks.length + 1 < scanBound ∧ ∀ p, H p = none → Q (.ref p) (upd H p (SetWO X.prog X.w p (onceW ks)))
theorem cr_setW2 {X : Cx} (hc : X.calm = true) : CallR X (.type "set") (rSetW2 X) := by
  intro pins s σ H xs us Q I r h
  obtain ⟨a, ks, rfl, hs | hs, few, q⟩ := h
  · exact cr_setW hc pins s σ H _ us Q I r ⟨a, ks, rfl, hs, few, q⟩
  · obtain ⟨u, rfl, ru⟩ := vals1 r
    cases ru
    obtain ⟨its, rv, p, _⟩ := I.tuple hs
    obtain ⟨ln, at_⟩ := strs_at rv
    refine set_of_wordsT ks (I.ok.hd hc) p (by simpa using ln) (fun i v h => at_ i v (by simpa using h)) few fun s₂ ⟨h', tk, e, R, k⟩ => ?_
    subst e
    exact ⟨.ref s.heap.objs.size, _, I.laid (t' := tk) k (Nat.le_refl _) (setW_ok R), rfl, q _ (I.hok.fresh (Nat.le_refl _))⟩
end Jg
namespace Jg
open PySem PySem.Spec PyProof.Rows L2
def iEither (K : PySem.W.Frag) (te : TE) : TI := fun σ H R => te σ H fun x H1 => ∃ a b xs, x = .ref a ∧ SqE K b H1 a xs ∧ R (if b = true then Itl K a else Itt K a) H1
theorem pi_either {X : Cx} {tg e : Expr} {te : TE} (he : PE X e te) : PI X tg e (iEither X.K te) := by
  refine ⟨fun pins s σ H R I h => thn (he.run pins s σ H _ I h) fun v t ⟨x, G, J, rx, a, b, xs, e1, sq, q⟩ => ?_⟩
  subst e1
  cases rx
  have old : ∀ c o, t.heap.get? c = some o → (t.heap.push { cls := .type "list_iterator", data := .fields #[.ref a, .int 0 0] }).get? c = some o := fun c o z => Heap.get?_push_of_some _ z
  have fp : ∀ c, c ∈ [t.heap.objs.size] → FpOk X pins G c := fun c hc => by
    rw [List.mem_singleton.mp hc]
    exact J.fpOk (Nat.le_refl _) (J.hok.fresh (Nat.le_refl _))
  cases b with
  | true =>
    obtain ⟨us, rv, at_, _⟩ := J.list (show SqL X.K G a xs from sq)
    exact wpAny_pyIter_list at_.isList ⟨t.heap.objs.size, [t.heap.objs.size], _, _, G, rfl, J.kept (t' := t.toks) fun c o z => Heap.get?_push_of_some _ z, turn_list a _, ⟨_, Heap.get?_push_size _ rfl, rfl, rfl⟩, fp, q⟩
  | false =>
    obtain ⟨us, rv, at_, _⟩ := J.tuple (show SqT X.K G a xs from sq)
    exact wpAny_pyIter_tuple (show t.heap.IsTuple a us.toArray from at_) ⟨t.heap.objs.size, [t.heap.objs.size], _, _, G, rfl, J.kept (t' := t.toks) fun c o z => Heap.get?_push_of_some _ z, turn_tuple a _, ⟨_, Heap.get?_push_size _ rfl, rfl, rfl⟩, fp, q⟩
theorem lc_either {K : PySem.W.Frag} {b : Bool} {a : Addr} {xs : List V} {g : TG} {tt : TT} {te : TE} {vs : List Nat} {σ : L2.St} {H1 : Hp} {D : Addr} {Qd : Hp → Prop} (Pv : Nat → Hp → Prop) (h0 : Pv 0 (upd H1 D (.lst []))) (hl : ∀ i H, i ≤ xs.length → Pv i H → SqE K b H a xs)
    (hs : ∀ i x H, xs[i]? = some x → Pv i H → g x (wipe σ vs) H fun σ2 H2 => wipe σ2 vs = wipe σ vs ∧ tt σ2 H2 fun k H3 =>
      if k = true then te σ2 H3 fun y H4 => ∃ acc, H4 D = some (.lst acc) ∧ acc.length < sizeLine ∧ Pv (i + 1) (upd H4 D (.lst (acc ++ [y]))) else Pv (i + 1) H3) (hd : ∀ H, Pv xs.length H → Qd H) :
    ∃ W : Nat → Nat → Hp → Prop, (∃ m, W 0 m (upd H1 D (.lst []))) ∧ ∀ i m H, W i m H →
      ((if b = true then Itl K a else Itt K a).stop i H ∧ Qd H) ∨ ((if b = true then Itl K a else Itt K a).go i H ∧ ∃ Nx : Hp → Prop, (∀ H', Nx H' → ∃ m', m' < m ∧ W (i + 1) m' H') ∧ ∀ x H', (if b = true then Itl K a else Itt K a).yld i H x H' → g x (wipe σ vs) H' fun σ2 H2 => wipe σ2 vs = wipe σ vs ∧ tt σ2 H2 fun k H3 =>
        if k = true then te σ2 H3 fun y H4 => ∃ acc, H4 D = some (.lst acc) ∧ acc.length < sizeLine ∧ Nx (upd H4 D (.lst (acc ++ [y]))) else Nx H3) := by
  cases b with
  | true => exact lc_list (K := K) (a := a) (xs := xs) Pv h0 hl hs hd
  | false => exact lc_tup (K := K) (a := a) (xs := xs) Pv h0 hl hs hd
end Jg
namespace Jg
open PySem PySem.Spec PyProof.Rows
/-- x is behind y -/
def bef (x y : Str) : Bool := !ltCps y.cps.toList x.cps.toList
theorem bef_iff {x y : Str} : bef x y = true ↔ ¬ y.cps.toList < x.cps.toList := by
  unfold bef
  rw [ltCps_eq]
  simp
theorem bef_total (x y : Str) : bef x y = true ∨ bef y x = true := by
  rcases Decidable.em (y.cps.toList < x.cps.toList) with h | h
  · exact .inr (bef_iff.mpr fun q => List.lt_irrefl _ (List.lt_trans h q))
  · exact .inl (bef_iff.mpr h)
theorem bef_anti {x y : Str} (h1 : bef x y = true) (h2 : bef y x = true) : x = y := by
  have a := bef_iff.mp h1
  have b := bef_iff.mp h2
  have e : x.cps.toList = y.cps.toList := List.le_antisymm (List.not_lt.mp a) (List.not_lt.mp b)
  have c : x.cps = y.cps := Array.ext' e
  cases x; cases y; cases c; rfl
theorem bef_trans {x y z : Str} (h1 : bef x y = true) (h2 : bef y z = true) : bef x z = true := by
  have a := List.not_lt.mp (bef_iff.mp h1)
  have b := List.not_lt.mp (bef_iff.mp h2)
  exact bef_iff.mpr (List.not_lt.mpr (List.le_trans a b))
theorem rising_pw : ∀ (l : List Str) (p : Str), risingS p l = true → (p :: l).Pairwise fun x y => bef x y = true
  | [], p, _ => List.pairwise_singleton _ _
  | x :: r, p, h => by
    have h' : (bef p x && risingS x r) = true := h
    rw [Bool.and_eq_true] at h'
    have ih := rising_pw r x h'.2
    refine List.pairwise_cons.mpr ⟨fun y hy => ?_, ih⟩
    rcases List.mem_cons.mp hy with e | hy
    · rw [e]; exact h'.1
    · exact bef_trans h'.1 ((List.pairwise_cons.mp ih).1 y hy)
theorem sorted_pw {l : List Str} (h : sortedS l = true) : l.Pairwise fun x y => bef x y = true := by
  cases l with
  | nil => exact .nil
  | cons x r => exact rising_pw r x h
theorem pw_sorted {l : List Str} (h : l.Pairwise fun x y => bef x y = true) : sortedS l = true :=
  sortedS_of_pairwise l (h.imp fun {a b} q => by
    have q' : (!ltCps b.cps.toList a.cps.toList) = true := q
    simpa using q')
theorem pw_uniq : ∀ {l m : List Str}, l.Pairwise (fun x y => bef x y = true) → m.Pairwise (fun x y => bef x y = true) → l.Perm m → l = m
  | [], m, _, _, p => (List.nil_perm.mp p).symm
  | x :: r, [], _, _, p => absurd p (by simp)
  | x :: r, y :: t, h1, h2, p => by
    have e : x = y := by
      have hx : x ∈ y :: t := p.mem_iff.mp (List.mem_cons_self ..)
      have hy : y ∈ x :: r := p.mem_iff.mpr (List.mem_cons_self ..)
      rcases List.mem_cons.mp hx with e | hx
      · exact e
      · rcases List.mem_cons.mp hy with e | hy
        · exact e.symm
        · exact bef_anti ((List.pairwise_cons.mp h1).1 y hy) ((List.pairwise_cons.mp h2).1 x hx)
    subst e
    rw [pw_uniq (List.pairwise_cons.mp h1).2 (List.pairwise_cons.mp h2).2 (List.Perm.cons_inv p)]
def srtW (l : List Str) : List Str := l.mergeSort bef
theorem srtW_perm (l : List Str) : (srtW l).Perm l := List.mergeSort_perm l bef
theorem bef_total' (x y : Str) : (bef x y || bef y x) = true := by rw [Bool.or_eq_true]; exact bef_total x y
theorem srtW_sorted (l : List Str) : sortedS (srtW l) = true := by
  have h : (l.mergeSort bef).Pairwise fun x y => bef x y = true := by
    first
      | exact List.pairwise_mergeSort (le := bef) (fun _ _ _ h1 h2 => bef_trans h1 h2) bef_total' l
      | exact List.sorted_mergeSort (le := bef) (fun _ _ _ h1 h2 => bef_trans h1 h2) bef_total' l
  exact pw_sorted h
theorem srt_eq {l m : List Str} (s : sortedS l = true) (p : l.Perm m) : l = srtW m := pw_uniq (sorted_pw s) (sorted_pw (srtW_sorted m)) (p.trans (srtW_perm m).symm)
theorem srtW_congr {l m : List Str} (p : l.Perm m) : srtW l = srtW m := srt_eq (srtW_sorted l) ((srtW_perm l).trans p)
theorem srtW_len (l : List Str) : (srtW l).length = l.length := (srtW_perm l).length_eq
theorem srtW_mem {l : List Str} {x : Str} : x ∈ srtW l ↔ x ∈ l := (srtW_perm l).mem_iff
theorem srtW_nodup {l : List Str} : (srtW l).Nodup ↔ l.Nodup := (srtW_perm l).nodup_iff
end Jg
namespace Jg
open PySem PySem.Spec PyProof.Rows L2
/-- small enough to be compared -/
def Sh40 (d : PyData) : Prop := d.canLay0 = true ∧ d.depth ≤ 40
/-- the data of a dict's values -/
def DvK (K : PySem.W.Frag) (H : Hp) (ks : List (Key × V)) (da : List (Key × PyData)) : Prop := Paired (fun p q => p.1 = q.1 ∧ Dp K H p.2 q.2 ∧ Sh40 q.2) ks da
def look : List (Key × PyData) → Key → Option PyData
  | [], _ => none
  | p :: r, k => if p.1 = k then some p.2 else look r k
def eqvD (da db : List (Key × PyData)) : Bool := da.length == db.length && da.all fun p => match look db p.1 with | none => false | some e => PyData.eqv p.2 e
section
variable {K : PySem.W.Frag} {H : Hp}
theorem dv_look {ks : List (Key × V)} {da : List (Key × PyData)} (h : DvK K H ks da) (k : Key) : (valV ks k = none ∧ look da k = none) ∨ ∃ v d, valV ks k = some v ∧ look da k = some d ∧ Dp K H v d ∧ Sh40 d := by
  unfold DvK at h
  induction h with
  | nil => exact .inl ⟨rfl, rfl⟩
  | @cons p q ps qs r _ ih =>
    obtain ⟨e, hd, sh⟩ := r
    by_cases c : p.1 = k
    · refine .inr ⟨p.2, q.2, valV_pos c, ?_, hd, sh⟩
      show (if q.1 = k then some q.2 else look qs k) = _
      rw [if_pos (e ▸ c)]
    · have l : look (q :: qs) k = look qs k := by
        show (if q.1 = k then some q.2 else look qs k) = _
        rw [if_neg (e ▸ c)]
      rw [valV_neg c, l]
      exact ih
end
section
variable {X : Cx} {pins : List (Addr × Obj)} {σ : L2.St} {H : Hp} {s : Shared} {A : Around}
theorem hits_data (I : Inv X pins σ H s) (hu : A.units + 40 < cLine) {ls : List (Key × V)} {vb : List (Key × Value)} {db : List (Key × PyData)} (rb : KV ls vb) (hb : DvK X.K H ls db) : ∀ {ks : List (Key × V)} {va : List (Key × Value)} {da : List (Key × PyData)}, KV ks va → DvK X.K H ks da →
    PySem.W.KeqHitsP X.prog X.w A s vb va (da.all fun p => match look db p.1 with | none => false | some e => PyData.eqv p.2 e) := by
  intro ks va da ra ha
  unfold KV at ra
  unfold DvK at ha
  induction ra generalizing da with
  | nil => cases ha; exact .nil
  | @cons p q ps qs h t ih =>
    cases ha with
    | @cons _ d _ ds hd td =>
    obtain ⟨e1, r1⟩ := h
    obtain ⟨e2, dp, sh⟩ := hd
    obtain ⟨qk, qv⟩ := q
    have ek : p.1 = qk := e1
    rw [List.all_cons]
    have rv := rb.val p.1
    rcases dv_look hb p.1 with ⟨n1, n2⟩ | ⟨v, d2, n1, n2, dp2, sh2⟩
    · rw [← e2, n2]
      rw [n1] at rv
      have z : valueAt vb qk = none := by
        rw [← ek]
        cases c : valueAt vb p.1 with
        | none => rfl
        | some y => rw [c] at rv; exact absurd rv (by intro q; cases q)
      exact .miss z
    · rw [← e2, n2]
      rw [n1] at rv
      obtain ⟨y, hy, ry⟩ := rv.some_of
      rw [ek] at hy
      obtain ⟨as, R1⟩ := Dp.reads I d.2 p.2 qv dp r1
      obtain ⟨bs, R2⟩ := Dp.reads I d2 v y dp2 ry
      have eq : SeqAt.EqAt A s qv y (PyData.eqv d.2 d2) := SeqAt.eqAt_reads d.2 d2 A s qv y as bs R1 R2 sh.1 sh2.1 (Nat.lt_of_le_of_lt (Nat.add_le_add_left (Nat.le_trans (Nat.min_le_left _ _) sh.2) _) hu)
      exact .hit hy eq.eqP (ih td)
end
def rEqDD (K : PySem.W.Frag) : R2 := fun x y H Q => ∃ a b ks ls da db, x = .ref a ∧ y = .ref b ∧ H a = some (.dK ks) ∧ H b = some (.dK ls) ∧ DvK K H ks da ∧ DvK K H ls db ∧ Q (.bl (eqvD da db)) H
theorem op_eqDD {X : Cx} (hu : X.A.units + 64 < cLine) : OpR X (compareOp .Eq) (rEqDD X.K) := by
  intro pins s σ H x y v u Q I rx ry h
  obtain ⟨a, b, ks, ls, da, db, rfl, rfl, ha, hb, dva, dvb, q⟩ := h
  cases (show v = Value.ref a from rx)
  cases (show u = Value.ref b from ry)
  obtain ⟨_, ya, va, ra, doa⟩ := (show ObjOk X.prog X.w H s.heap a (.dK ks) from I.hok a _ ha)
  obtain ⟨_, yb, vb, rb, dob⟩ := (show ObjOk X.prog X.w H s.heap b (.dK ls) from I.hok b _ hb)
  refine PySem.W.rcP_dicts (knd := mixKind X.prog X.w) ya yb doa dob (by omega) (fun _ => hits_data I (A := X.A.in1) (by show X.A.units + 1 + 40 < cLine; omega) rb dvb ra dva) _ _ ?_
  have l1 : va.length = da.length := by rw [← Paired.length ra, Paired.length dva]
  have l2 : vb.length = db.length := by rw [← Paired.length rb, Paired.length dvb]
  rw [l1, l2]
  exact ⟨.bl _, H, I, rfl, q⟩
end Jg
namespace Jg
open PySem PySem.Spec PyProof.Rows L2
theorem lay_strs : ∀ xs : List Str, (∀ z ∈ xs, okW z) → PyData.canLayAll0 (xs.map PyData.str) = true
  | [], _ => rfl
  | x :: xs, h => by
    show (PyData.canLay0 (.str x) && PyData.canLayAll0 (xs.map PyData.str)) = true
    rw [lay_strs xs fun z hz => h z (List.mem_cons_of_mem _ hz)]
    have e : PyData.canLay0 (.str x) = true := by
      have := h x (List.mem_cons_self ..)
      unfold okW at this
      simp [PyData.canLay0, this]
    rw [e]; rfl
theorem depth_strs : ∀ xs : List Str, PyData.depthAll (xs.map PyData.str) = 0
  | [] => rfl
  | x :: xs => by
    show max (PyData.depth (.str x)) (PyData.depthAll (xs.map PyData.str)) = 0
    rw [depth_strs xs]; rfl
theorem shaped_strs {xs : List Str} (h : ∀ z ∈ xs, okW z) : SeqAt.shaped (.list (xs.map PyData.str)) = true := by
  show (PyData.canLayAll0 (xs.map PyData.str) && decide (PyData.depthAll (xs.map PyData.str) + 1 ≤ 64)) = true
  rw [lay_strs xs h, depth_strs]; rfl
theorem eqv_str (x y : Str) : PyData.eqv (.str x) (.str y) = decide (x = y) := by
  by_cases c : x = y
  · subst c; simp [PyData.eqv]
  · simp [PyData.eqv, c]
theorem eqvAll_strs : ∀ xs ys : List Str, PyData.eqvAll (xs.map PyData.str) (ys.map PyData.str) = decide (xs = ys)
  | [], [] => rfl
  | [], y :: ys => rfl
  | x :: xs, [] => rfl
  | x :: xs, y :: ys => by
    have ih := eqvAll_strs xs ys
    show (PyData.eqv (.str x) (.str y) && PyData.eqvAll (xs.map PyData.str) (ys.map PyData.str)) = _
    rw [ih, eqv_str]
    by_cases c : x = y
    · subst c
      by_cases d : xs = ys
      · subst d; simp
      · simp [d]
    · simp [c]
theorem eqv_strs (xs ys : List Str) : PyData.eqv (.list (xs.map PyData.str)) (.list (ys.map PyData.str)) = decide (xs = ys) := by
  rw [PyData.eqv]; exact eqvAll_strs xs ys
theorem dpAll_strs {K : PySem.W.Frag} {H : Hp} : ∀ xs : List Str, DpAll K H (xs.map V.str) (xs.map PyData.str)
  | [] => .nil
  | x :: xs => .cons (.str x) (dpAll_strs xs)
theorem dp_strs {K : PySem.W.Frag} {H : Hp} {a : Addr} {xs : List Str} (h : SqL K H a (xs.map V.str)) : Dp K H (.ref a) (.list (xs.map PyData.str)) := .lst h (dpAll_strs xs)
theorem ask_eqS {K : PySem.W.Frag} {H : Hp} {a b : Addr} {xs ys : List Str} {Q : VK} (h1 : SqL K H a (xs.map V.str)) (h2 : SqL K H b (ys.map V.str)) (k1 : ∀ z ∈ xs, okW z) (k2 : ∀ z ∈ ys, okW z) (q : Q (.bl (decide (xs = ys))) H) : rEqD K (.ref a) (.ref b) H Q :=
  ⟨_, _, dp_strs h1, dp_strs h2, shaped_strs k1, shaped_strs k2, by rw [eqv_strs]; exact q⟩
theorem ask_neS {K : PySem.W.Frag} {H : Hp} {a b : Addr} {xs ys : List Str} {Q : VK} (h1 : SqL K H a (xs.map V.str)) (h2 : SqL K H b (ys.map V.str)) (k1 : ∀ z ∈ xs, okW z) (k2 : ∀ z ∈ ys, okW z) (q : Q (.bl (!decide (xs = ys))) H) : rNeD K (.ref a) (.ref b) H Q :=
  ⟨_, _, dp_strs h1, dp_strs h2, shaped_strs k1, shaped_strs k2, by rw [eqv_strs]; exact q⟩
/-- z in a list of texts -/
theorem inV_strs {m : Str} : ∀ {xs : List Str}, inV (.str m) (xs.map V.str) = decide (m ∈ xs)
  | [] => rfl
  | x :: xs => by
    have ih := inV_strs (m := m) (xs := xs)
    show (eqV (.str x) (.str m) || inV (.str m) (xs.map V.str)) = _
    rw [ih]
    have e : eqV (.str x) (.str m) = decide (x = m) := by
      by_cases c : x = m
      · subst c; simp [eqV]
      · simp [eqV, c]
    rw [e]
    by_cases c : x = m
    · subst c; simp
    · have c' : ¬ m = x := fun z => c z.symm
      simp [c, c']
theorem flat_strs : ∀ {xs : List Str}, (xs.map V.str).all flatV = true
  | [] => rfl
  | x :: xs => by
    show (flatV (.str x) && (xs.map V.str).all flatV) = true
    rw [flat_strs]; rfl
theorem ask_notInS {K : PySem.W.Frag} {H : Hp} {a : Addr} {xs : List Str} {m : Str} {Q : VK} (h : SqL K H a (xs.map V.str)) (q : Q (.bl (!decide (m ∈ xs))) H) : rIn K true (.str m) (.ref a) H Q :=
  ⟨a, _, rfl, .inl h, rfl, flat_strs, by
    show Q (.bl (!inV (.str m) (xs.map V.str))) H
    rw [inV_strs]; exact q⟩
/-- plain texts may be laid -/
theorem okW_ascii {z : Str} (h : PySem.Txt.isascii z = true) : okW z := by
  unfold PySem.Txt.isascii at h
  unfold okW PyData.strOk
  rw [← Array.all_toList, List.all_eq_true] at h ⊢
  intro c hc
  have := of_decide_eq_true (h c hc)
  exact decide_eq_true (by omega)
theorem sub_sorted : ∀ {m l : List Str}, m.Pairwise (fun x y => bef x y = true) → l.Pairwise (fun x y => bef x y = true) → l.Nodup → (∀ x ∈ l, x ∈ m) → l.Sublist m
  | [], l, _, _, _, h => by
    cases l with
    | nil => exact .slnil
    | cons x r => exact absurd (h x (List.mem_cons_self ..)) (by simp)
  | y :: t, [], _, _, _, _ => List.nil_sublist _
  | y :: t, x :: r, hm, hl, nd, h => by
    obtain ⟨hm1, hm2⟩ := List.pairwise_cons.mp hm
    obtain ⟨hl1, hl2⟩ := List.pairwise_cons.mp hl
    obtain ⟨nx, nr⟩ := List.nodup_cons.mp nd
    by_cases e : x = y
    · subst e
      refine (sub_sorted hm2 hl2 nr fun z hz => ?_).cons_cons x
      rcases List.mem_cons.mp (h z (List.mem_cons_of_mem _ hz)) with e | k
      · rw [e] at hz; exact absurd hz nx
      · exact k
    · refine List.Sublist.cons y (sub_sorted hm2 hl nd fun z hz => ?_)
      rcases List.mem_cons.mp (h z hz) with e2 | k
      · -- z = y would stand ahead of x
        subst e2
        rcases List.mem_cons.mp hz with e3 | hz'
        · exact absurd e3.symm e
        · have hx : x ∈ t := (List.mem_cons.mp (h x (List.mem_cons_self ..))).resolve_left e
          exact absurd (bef_anti (hl1 z hz') (hm1 x hx)) e
      · exact k
theorem eq_sorted {l m : List Str} (hm : sortedS m = true) (hl : sortedS l = true) (nd : l.Nodup) (h : ∀ x ∈ l, x ∈ m) (len : l.length = m.length) : l = m :=
  (sub_sorted (sorted_pw hm) (sorted_pw hl) nd h).eq_of_length len
end Jg
namespace Jg
open PySem PySem.Spec PyProof.Rows L2
structure MakN (P : Program) (w : World) (K : PySem.W.Frag) (mg : Str → Option Value) (base : Heap) (CX : CXT) (k : Nat) (x : Str) (C : Addr) (n : Nat) (ks : List Str) (gV : List V → List V → List V) (sp : Sp) : Prop where
  mg_ : mg x = some (.ref C)
  mks : PySem.W.makesIn K C = true
  kp : PySem.W.keepIn K (.ref C) = true
  ex : ∃ f fd ps g, FnOk P w K mg base CX k f fd ps sp ∧ PySem.W.findIn K (.ref C) "__init__" = some (some (.ref f)) ∧ PySem.W.isFn K (.ref f) = true ∧ KBn K fd ps (n + 1) ks g gV
def tMakeNS (C : Addr) (n m : Nat) (sp : Sp) (gV : List V → List V → List V) (E : L2.St → XK) (t tk : TA) : TE := fun σ H Q => t σ H fun vs H1 => tk σ H1 fun zs H2 => vs.length = n ∧ zs.length = m ∧ ∀ x dx, H2 x = none → H2 dx = none → dx ≠ x →
  sp (gV (.ref x :: vs) zs) (upd (upd H2 dx (.own x)) x (.ins C dx [])) (fun v H3 => v = .non ∧ Q (.ref x) H3) (E σ)
section
variable {X : Cx} {k j n : Nat} {C : Addr} {ks : List Str} {sp : Sp} {x : Str} {p pos : Pos} {kws : List Keyword} {e : Expr} {es : List Expr} {t ta : TA} {gV : List V → List V → List V} {W : WX}
theorem pe_mkNS (c : MakN X.prog X.w X.K X.mg X.base (L2.CX X.prog X.w) k x C n ks gV sp) (tk : Takes X W) (hr : Room j X.A) (hk : k + 1 ≤ j) (hg : Gl X x) (ha : PA X (e :: es) t) (hkw : PK X kws ta)
    (hall : (backToKw pos (keywordEach kws X.env)).all (·.1.isSome) = true := by rfl) (hks : (backToKw pos (keywordEach kws X.env)).filterMap (·.1) = ks := by rfl) (hdb : (x == ("__debug__" : Str)) = false := by decide)
    (he : starEach (e :: es) X.env = (false, eval e X.env) :: starEach es X.env := by rfl) (hpl : ((backTo pos (starEach (e :: es) X.env)).any (·.1) || (backToKw pos (keywordEach kws X.env)).any (·.1.isNone)) = false := by rfl) :
    PE X (.Call (.Name x p) (e :: es) kws pos) (tMakeNS C n ks.length sp gV (WE W) t ta) := by
  obtain ⟨f, fd, ps, g, F, ini, fn, b⟩ := c.ex
  refine ⟨fun pins s σ H Q I h => wpAny_Call_Name_kw (ld_glob I hg c.mg_ (PySem.W.callWith_KW (h₀ := X.base) I.ok.mod.kin c.kp hall (thn (ha.run pos pins s σ H _ I h) fun us s1 ⟨vs, H1, I1, r, q⟩ => ?_) hpl he) hdb)⟩
  refine thn (hkw.run pos pins s1 σ H1 _ I1 q) fun ws s2 ⟨zs, H2, J, rz, l1, l2, q⟩ => ⟨J.kIn, ?_⟩
  rw [hks]
  let m := s2.heap.objs.size
  have q1 := q (m + 1) m (J.hok.fresh (Nat.le_succ _)) (J.hok.fresh (Nat.le_refl _)) (Nat.ne_of_lt (Nat.lt_succ_self _))
  have J2 := Inv.made (C := C) J
  have r1 : Vals (V.ref (m + 1) :: vs) (Value.ref (m + 1) :: us) := .cons rfl r
  have n1 : (Value.ref (m + 1) :: us).length = n + 1 := by
    rw [List.length_cons, ← r.length, l1]
  have run := F.run _ X.stack _ _ ⟨Value.ref (m + 1) :: us, ks.zip ws⟩ _ _ _ (WE W σ) ((hr.mono hk).make C us (ks.zip ws)) (J2.env0.make C us (ks.zip ws)) (b.to _ (Value.ref (m + 1) :: us) ws J2.kIn n1 (rz.length.symm.trans l2)) (b.rel r1 rz) q1
  show wpAny (model X.prog X.w) X.A (call (.ref C) us (ks.zip ws)) (EP X pins σ Q) X.xe s2
  refine wpAny_call (make_map (f := f) J.kIn c.mks ini (beq_iff_eq.mp fn) (codeAny_mono run fun o s3 z => ?_))
  match o, z with
  | .error err, z => exact passAt tk σ pins _ _ err s3 J2 z
  | .ok (.ret u), z =>
    obtain ⟨v, H3, J3, rv, ev, q3⟩ := J2.after z
    subst ev
    exact ⟨rv, V.ref (m + 1), H3, J3, rfl, q3⟩
end
section
variable {P : Program} {w : World} {K : PySem.W.Frag} {mg : Str → Option Value} {base : Heap} {k : Nat} {C : Addr} {x qual : Str} {st : Stmt} {N ps ks : List Str} {kws : List (Str × V)} {sp : Sp}
theorem IniK.makN (D : IniK K C qual st kws) (m : mg x = some (.ref C)) (mk : PySem.W.makesIn K C = true) (kp : PySem.W.keepIn K (.ref C) = true) (S : FnScope N ps (defScope st)) (len : ∀ vs H Q E, sp vs H Q E → vs.length = ps.length) (n : Nat)
    (ms : List (Str × V)) (g : {α : Type} → List α → List α → List α → List α) (hk : kws ≠ []) (hms : ∀ q ∈ ms, q ∈ kws) (hrel : ∀ {vs mz zs : List V} {us mv ws : List Value}, Vals vs us → Vals mz mv → Vals zs ws → Vals (g vs mz zs) (g us mv ws))
    (hb : ∀ (D : Addr) (doc pm : Value) (an : Option Addr) (cdv ct : Value) (us mv ws : List Value), us.length = n + 1 → mv.length = ms.length → ws.length = ks.length →
      KwChain D ((ms.map (·.1)).zip mv) (bindArgs (PySem.W.fnOf "__init__" qual (defArgs st) (defBody st) (defScope st) .none (.ref D) doc pm an cdv ct) ⟨us, ks.zip ws⟩) (ps.zip (g us mv ws)))
    (body : ∀ f, BodyX P w K mg base N qual st f k sp) : MakN P w K mg base (L2.CX P w) (k + 1) x C n ks (fun vs zs => g vs (ms.map (·.2)) zs) sp :=
  let ⟨f, fd, F, a, i⟩ := D.ex
  let ⟨mv, b⟩ := F.kbinds0 (n + 1) ks ms g hk hms hrel hb
  ⟨m, mk, kp, f, fd, ps, _, F.ok S len (body f), a, i, b⟩
end
def tMeth0S (C : Addr) (m : Str) (sp : Sp) (E : L2.St → XK) (ta : TE) : TE := fun σ H Q => ta σ H fun x H1 => ∃ a dx fs, x = .ref a ∧ H1 a = some (.ins C dx fs) ∧ fs.lookup m = none ∧ sp [.ref a] H1 Q (E σ)
section
variable {X : Cx} {k j : Nat} {C : Addr} {x m : Str} {sp : Sp} {W : WX} {p pos apos : Pos} {o : Expr} {ta : TE}
theorem pe_mz {pl : Sem Bool} (c : Met X.prog X.w X.K X.mg X.base CX0 k C m sp) (cl : Cls X.K C) (hr : Room j X.A) (hk : k ≤ j) (he : PE X o ta)
    (ht : eval (.Call (.Attribute o m apos) [] [] pos) X.env = (do
      let ov ← eval o X.env
      standAt apos.atName
      let (f, first) ← holding [ov] (getMethod ov m pl)
      callWith pos f first (backTo pos (starEach [] X.env)) (backToKw pos (keywordEach [] X.env))) := by rfl) :
    PE X (.Call (.Attribute o m apos) [] [] pos) (tMeth C m sp [] E0 ta tNil) := by
  obtain ⟨f, fd, ps, F, a, i, kp, b⟩ := c.ex
  exact pe_meth0 (pl := pl) he cl ⟨a, i, kp⟩ F (hr.mono hk) b .nil pass0 ht
theorem pe_mzS {pl : Sem Bool} (c : Met X.prog X.w X.K X.mg X.base (L2.CX X.prog X.w) k C m sp) (cl : Cls X.K C) (tk : Takes X W) (hr : Room j X.A) (hk : k ≤ j) (he : PE X o ta)
    (ht : eval (.Call (.Attribute o m apos) [] [] pos) X.env = (do
      let ov ← eval o X.env
      standAt apos.atName
      let (f, first) ← holding [ov] (getMethod ov m pl)
      callWith pos f first (backTo pos (starEach [] X.env)) (backToKw pos (keywordEach [] X.env))) := by rfl) :
    PE X (.Call (.Attribute o m apos) [] [] pos) (tMeth0S C m sp (WE W) ta) := by
  obtain ⟨f, fd, ps, F, at_, i, kp, b⟩ := c.ex
  refine ⟨fun pins s σ H Q I h => PySem.W.methodCall_KW (pl := pl) (thn (he.run pins s σ H _ I h) fun u s1 ⟨x, H1, I1, rx, a, dx, fs, ex, ea, l, q⟩ => ?_) ht⟩
  subst ex
  obtain rfl : u = Value.ref a := rx
  refine getmeth_ok I1 ea cl ⟨at_, i, kp⟩ l ?_
  exact PySem.W.callWith_K0 (first := [.ref a]) I1.kIn kp (run_fnS (E := WE W) (us := [.ref a]) (vs := [.ref a]) F (hr.mono hk) b (passAt tk σ) I1 (.cons rfl .nil) q)
end
end Jg
namespace Jg
open PySem PySem.Spec PyProof.Rows L2
end Jg
namespace Jg
open PySem PySem.Spec PyProof.Rows L2
end Jg
namespace Jg
open PySem PySem.Spec PyProof.Rows L2
/-- a try in a loop: its reading by a name -/
def tTry (tb : WX → TS) (w : Ends → WX) : TS := fun D σ H => tb (w D) D σ H
theorem ps_tryT {X : Cx} {Wout : WX} {body : List Stmt} {h₀ : ExceptHandler} {hds : List ExceptHandler} {w : Ends → WX} {pos : Pos} {tb : WX → TS} (hd : Hds X Wout (h₀ :: hds) w) (hs : X.stack = X.env :: X.outer) (fr : X.env.frame = some X.env.locals) (hN : X.N.Nodup) (tk : Takes X Wout)
    (hb : ∀ (W : WX) (pn : List (Addr × Obj)) (xe : Value → Shared → Prop), Takes (X.tr pn xe) W → PassesOwn (model X.prog X.w) X.A X.env xe → PSs (X.tr pn xe) body (tb W)) :
    PS X (.Try body (h₀ :: hds) [] [] pos) (tTry tb w) := ps_try hd hs fr hN tk hb
end Jg
namespace Jg
open PySem PySem.Spec PyProof.Rows L2
end Jg
namespace Jg
open PySem PySem.Spec PyProof.Rows L2
end Jg
namespace Jg
open PySem PySem.Spec PyProof.Rows L2
section
variable {P : Program} {w : World} {K : PySem.W.Frag}
def NkP (P : Program) (w : World) (a : Addr) : Heap → Prop := fun h => (a == sysModules) = false ∧ ∃ u, h.DictOf (noneKind P w) a [(none, u)]
abbrev NkO (P : Program) (w : World) (a : Addr) : HO := .ext (NkP P w a)
theorem dict_ep2 {o : Obj} {es es' : Array DictEntry} {ep ep' : Nat} (h : o.data = .dict es ep) (h' : o.data = .dict es' ep') : es = es' ∧ ep = ep' := by
  rw [h] at h'
  injection h' with a b
  exact ⟨a, b⟩
variable {X : Cx} {pins : List (Addr × Obj)} {σ : L2.St} {H : Hp} {s : Shared} {d : Addr} {o : Obj}
theorem frzN (I : Inv X pins σ H s) (h : H d = some (.frz o (NkO X.prog X.w d))) :
    (d == sysModules) = false ∧ s.heap.get? d = some o ∧ o.ExactDict ∧ ∃ (es : Array DictEntry) (ep : Nat) (u : Value), o.data = .dict es ep ∧ es.size = 1 ∧ s.heap.DictAt (noneKind X.prog X.w) d [(none, u)] ep := by
  obtain ⟨hd, ⟨hs, u, o', es, ep, ho, hx, hdt, r⟩, _⟩ := I.hok d _ h
  rw [hd] at ho
  cases ho
  refine ⟨hs, hd, hx, es, ep, u, hdt, ?_, o, es, hd, hx, hdt, r⟩
  have l1 := r.2.1.length
  rw [Array.length_toList] at l1
  exact l1
def ItN (P : Program) (w : World) (d : Addr) (o : Obj) : It :=
  ⟨fun i H => H d = some (.frz o (NkO P w d)) ∧ i < 1, fun i H x H' => H' = H ∧ x = .non, fun i H => H d = some (.frz o (NkO P w d)) ∧ 1 ≤ i⟩
theorem walk_none : Walk (ItN P w d o) 1 (fun H => H d = some (.frz o (NkO P w d))) (fun i H x H' => H' = H ∧ x = .non) :=
  ⟨fun _ _ hi q => ⟨q, hi⟩, fun _ q => ⟨q, Nat.le_refl _⟩, fun _ _ _ _ _ _ y => y⟩
theorem turn_none {tg : Expr} {es : Array DictEntry} {ep : Nat} (it : Addr) (hod : o.data = .dict es ep) : Turn P w K tg (ItN P w d o) [it] it (fun i h => h.IsKeyIter it d i 1 ep) where
  mem := by simp
  obj := fun i h st b hb => by
    have e : b = it := by simpa using hb
    subst e
    obtain ⟨oi, e, c, dd⟩ := st
    exact ⟨oi, e, fun v z => by rw [dd] at z; cases z⟩
  keep := fun i h h' st k => st.at fun oi e => k it (by simp) oi e
  item := by
    intro X hP hw hK hc i pins s σ H E I hf st hg
    subst hP hw hK
    obtain ⟨hd, hi⟩ := hg
    obtain ⟨f0, f1, f2, f3, f4, f5⟩ := hf it (by simp)
    obtain ⟨hs, hgd, hx, es', ep', u, hdt, hsz, hm⟩ := frzN I hd
    obtain ⟨rfl, rfl⟩ := dict_ep2 hod hdt
    obtain rfl : i = 0 := by omega
    refine wpAny_pyNext_dict_item (kvs := [(none, u)]) (k := none) (v := u) st hm rfl fun key h' hkey st' sb => ?_
    have I1 : Inv X pins σ H { s with heap := h' } := I.turned (t' := s.toks) (fun b ob hb e => (sb.2 b hb).trans e) f0 f1 f3 f4 f5
    obtain ⟨oi, e, c, dd⟩ := id st'
    have ek := nk_none hkey
    subst ek
    exact ⟨.none, rfl, go_of (s := { s with heap := h' }) e c dd (by decide) ⟨.non, H, I1, rfl, ⟨rfl, rfl⟩, st', fun b hb => (hf b hb).1⟩⟩
  done := by
    intro X hP hw hK hc i pins s σ H E I hf st hg
    subst hP hw hK
    obtain ⟨hd, hi⟩ := hg
    obtain ⟨f0, f1, f2, f3, f4, f5⟩ := hf it (by simp)
    obtain ⟨hs, hgd, hx, es', ep', u, hdt, hsz, hm⟩ := frzN I hd
    obtain ⟨rfl, rfl⟩ := dict_ep2 hod hdt
    exact next_key_end (I.ok.hd hc) st hgd hdt hsz hi fun h' eb => ⟨rfl, I.turned (t' := s.toks) (fun b ob hb e => eb b ob hb e) f0 f1 f3 f4 f5⟩
  self := fun A i s Q E st h => wpAny_pyIter_keyiter st h
end
/-- for x in d: d as everywhere, or of the one key None -/
def iKeysE (P : Program) (w : World) (td : TE) : TI := fun σ H R => td σ H fun x H1 => ∃ d o, x = .ref d ∧ ((∃ kvs, H1 d = some (.frz o (.dK kvs)) ∧ R (Itk d o kvs) H1) ∨ (H1 d = some (.frz o (NkO P w d)) ∧ R (ItN P w d o) H1))
section
variable {X : Cx} {tg e : Expr} {td : TE} {pos : Pos}
theorem pi_keysE (he : PE X e td) : PI X tg e (iKeysE X.prog X.w td) := by
  refine ⟨fun pins s σ H R I h => ?_⟩
  refine thn (he.run pins s σ H _ I h) fun u s1 ⟨x, H1, I1, rx, d, o, ex, q⟩ => ?_
  subst ex
  obtain rfl : u = Value.ref d := rx
  rcases q with ⟨kvs, hd, q⟩ | ⟨hd, q⟩
  · obtain ⟨hs, hgd, hx, es, ep, vs, hdt, hsz, kv, hm⟩ := I1.frzK hd
    refine iter_keys hs hgd hx hdt (pi_one (tk := s1.toks) I1 _ (turn_keys _ hdt) ⟨_, Heap.get?_push_size _ rfl, rfl, ?_⟩ q)
    rw [hsz] <;> rfl
  · obtain ⟨hs, hgd, hx, es, ep, u, hdt, hsz, hm⟩ := frzN I1 hd
    refine iter_keys hs hgd hx hdt (pi_one (tk := s1.toks) I1 _ (turn_none _ hdt) ⟨_, Heap.get?_push_size _ rfl, rfl, ?_⟩ q)
    rw [hsz] <;> rfl
def rIsiE (P : Program) (w : World) (K : PySem.W.Frag) : List V → Hp → VK → Prop := fun xs H Q => rIsi K xs H Q ∨ ∃ a, xs = [.ref a, .ty "dict"] ∧ H a = some (NkO P w a) ∧ Q (.bl true) H
theorem call_isiE : CallR X (.builtin "isinstance") (rIsiE X.prog X.w X.K) := by
  intro pins s σ H xs us Q I r h
  rcases h with h | ⟨a, rfl, ha, q⟩
  · exact call_isi pins s σ H xs us Q I r h
  · obtain ⟨u1, u2, rfl, r1, r2⟩ := vals2 r
    cases (show u1 = Value.ref a from r1)
    cases (show u2 = Value.type "dict" from r2)
    obtain ⟨⟨hs, u, o, es, ep, ho, hx, _⟩, _⟩ := I.hok a _ ha
    exact PySem.W.kia_one PySem.W.kitx_dict I.kIn ⟨o, ho, hx.1⟩ (kit_ty (by decide +kernel)) (fun z => nomatch z) fun tk => ⟨.bl true, H, I.tok tk, rfl, q⟩
def rLenE (P : Program) (w : World) : List V → Hp → VK → Prop := fun xs H Q => (∃ a kvs, xs = [V.ref a] ∧ H a = some (.dK kvs) ∧ Q (.int kvs.length) H) ∨ ∃ a, xs = [.ref a] ∧ H a = some (NkO P w a) ∧ Q (.int 1) H
theorem call_lenE : CallR X (.builtin "len") (rLenE X.prog X.w) := by
  intro pins s σ H xs us Q I r h
  rcases h with h | ⟨a, rfl, ha, q⟩
  · exact call_lenD pins s σ H xs us Q I r h
  · obtain ⟨u, rfl, ru⟩ := vals1 r
    cases ru
    obtain ⟨⟨hs, u, dd⟩, _⟩ := I.hok a _ ha
    exact call_len_dict hs dd (by show ((1 : Nat) : Int) < 2 ^ 63; decide) ⟨.int 1, H, I.tok _, ⟨_, rfl⟩, q⟩
end
end Jg
namespace Jg
open PySem PySem.Spec PyProof.Rows L2
structure MetW (P : Program) (w : World) (K : PySem.W.Frag) (mg : Str → Option Value) (base : Heap) (CX : CXT) (k : Nat) (C : Addr) (m : Str) (n : Nat) (ks : List Str) (gV : List V → List V → List V) (sp : Sp) : Prop where
  ex : ∃ f fd ps g, FnOk P w K mg base CX k f fd ps sp ∧ PySem.W.findIn K (.ref C) m = some (some (.ref f)) ∧ PySem.W.isFn K (.ref f) = true ∧ PySem.W.keepIn K (.ref f) = true ∧ KBn K fd ps n ks g gV
section
variable {P : Program} {w : World} {K : PySem.W.Frag} {mg : Str → Option Value} {base : Heap} {k : Nat} {C : Addr} {m qual : Str} {st : Stmt} {N ps ks : List Str} {kws : List (Str × V)} {sp : Sp}
theorem MthK.met (D : MthK K C m qual st kws) (S : FnScope N ps (defScope st)) (len : ∀ vs H Q E, sp vs H Q E → vs.length = ps.length) (n : Nat)
    (ms : List (Str × V)) (g : {α : Type} → List α → List α → List α → List α) (hk : kws ≠ []) (hms : ∀ q ∈ ms, q ∈ kws) (hrel : ∀ {vs mz zs : List V} {us mv ws : List Value}, Vals vs us → Vals mz mv → Vals zs ws → Vals (g vs mz zs) (g us mv ws))
    (hb : ∀ (D : Addr) (doc pm : Value) (an : Option Addr) (cdv ct : Value) (us mv ws : List Value), us.length = n → mv.length = ms.length → ws.length = ks.length →
      KwChain D ((ms.map (·.1)).zip mv) (bindArgs (PySem.W.fnOf m qual (defArgs st) (defBody st) (defScope st) .none (.ref D) doc pm an cdv ct) ⟨us, ks.zip ws⟩) (ps.zip (g us mv ws)))
    (body : ∀ f, BodyX P w K mg base N qual st f k sp) : MetW P w K mg base (L2.CX P w) (k + 1) C m n ks (fun vs zs => g vs (ms.map (·.2)) zs) sp :=
  let ⟨f, fd, F, a, i⟩ := D.ex
  let ⟨mv, b⟩ := F.kbinds0 n ks ms g hk hms hrel hb
  ⟨f, fd, ps, _, F.ok S len (body f), a, i, F.kp, b⟩
end
end Jg
namespace Jg
open PySem PySem.Spec PyProof.Rows L2
end Jg
namespace Jg
open PySem PySem.Spec PyProof.Rows L2
end Jg
namespace K09C
open PySem PySem.Spec PyProof.Rows L2 Jg
local macro_rules | `(tactic| walk_at "rd1") => `(tactic| (first
  | refine ⟨_, rfl, ?_⟩
  | refine ⟨_, _, rfl, rfl, ?_⟩
  | refine ⟨_, _, rfl, ?_⟩
  | refine ⟨rfl, ?_⟩
  | (refine ⟨show (0 : Int) < _ by omega, ?_⟩)
  | (refine ⟨Or.inl ⟨by omega, by omega⟩, ?_⟩)
  | (refine ⟨Or.inr ⟨by omega, by omega⟩, ?_⟩)
  | (refine ⟨(⟨by decide, by decide, by decide⟩ : CPow _ _), ?_⟩)
  | refine Or.inl ⟨_, rfl, ?_⟩
  | refine Or.inr ⟨_, rfl, ?_⟩
  | fail "rd"))
local macro_rules | `(tactic| walk_at "rd") => `(tactic| repeat' walk_at "rd1")
theorem kii {K : PySem.W.Frag} : kit K (.type "int") "int" true := kit_ty (by decide +kernel)
theorem kib {K : PySem.W.Frag} : kit K (.type "int") "bool" false := kit_ty (by decide +kernel)
def spIsInt (K : PySem.W.Frag) : Sp := fun vs H Q _ => ∃ x t b1 b2, vs = [x] ∧ TyX K H x t ∧ kit K t "int" b1 ∧ (b1 = true → kit K t "bool" b2) ∧ Q (.bl (b1 && !b2)) H
def spWord (K : PySem.W.Frag) : Sp := fun vs H Q _ => ∃ y, vs = [y] ∧ ((∃ z, y = .str z ∧ z.length ≤ sizeLine ∧ Q (.bl (wordB z)) H) ∨ (∃ t, TyX K H y t ∧ kit K t "str" false ∧ Q (.bl false) H))
theorem yes_if {σ : L2.St} {H : Hp} {A B : Hp → Prop} (h : A H) : tYes σ H (fun b H3 => if b = true then A H3 else B H3) := by
  show (if true = true then A H else B H)
  rw [if_pos rfl]
  exact h
theorem same_new {H : Hp} {p : Addr} {o : HO} (h : H p = none) : Same H (upd H p o) := fun b u e => by rw [upd_ne (ne_of_none e h)]; exact e
theorem same_new' {H H1 : Hp} {p : Addr} {o : HO} (s : Same H H1) (h : H1 p = none) : Same H (upd H1 p o) := s.trans (same_new h)
theorem kAny_seq {K : PySem.W.Frag} (b : Bool) : PySem.W.kitAny K (.type (if b then "list" else "tuple")) [.type "list", .type "tuple"] = some true := by
  cases b with
  | true =>
    show (match PySem.W.kitOne K (.type "list") (.type "list") with | some true => some true | some false => PySem.W.kitAny K (.type "list") [.type "tuple"] | none => none) = _
    rw [show PySem.W.kitOne K (.type "list") (.type "list") = some true from kit_ty (by decide +kernel)]
  | false =>
    show (match PySem.W.kitOne K (.type "tuple") (.type "list") with | some true => some true | some false => PySem.W.kitAny K (.type "tuple") [.type "tuple"] | none => none) = _
    rw [show PySem.W.kitOne K (.type "tuple") (.type "list") = some false from kit_ty (by decide +kernel)]
    show (match PySem.W.kitOne K (.type "tuple") (.type "tuple") with | some true => some true | some false => some false | none => none) = _
    rw [show PySem.W.kitOne K (.type "tuple") (.type "tuple") = some true from kit_ty (by decide +kernel)]
theorem kAny_no {K : PySem.W.Frag} {t : Value} (k1 : kit K t "list" false) (k2 : kit K t "tuple" false) : PySem.W.kitAny K t [.type "list", .type "tuple"] = some false := by
  show (match PySem.W.kitOne K t (.type "list") with | some true => some true | some false => PySem.W.kitAny K t [.type "tuple"] | none => none) = _
  rw [show PySem.W.kitOne K t (.type "list") = some false from k1]
  show (match PySem.W.kitOne K t (.type "tuple") with | some true => some true | some false => some false | none => none) = _
  rw [show PySem.W.kitOne K t (.type "tuple") = some false from k2]
def spOrder (K : PySem.W.Frag) : Sp := fun vs H Q _ => ∃ a b ks, vs = [.ref a] ∧ SqE K b H a (ks.map V.str) ∧ ks.length ≤ 60 ∧ ∀ (ys : List Str) p H', ys.Perm (onceW ks) → sortedS ys = true → H p = none → Same H H' → H' p = some (.lst (ys.map V.str)) → Q (.ref p) H'
section
variable {P : Program} {w : World} {K : PySem.W.Frag} {mg : Str → Option Value} {base : Heap}
theorem sc_is_integer : FnScope ["value"] ["value"] (defScope s_is_integer) := ⟨rfl, rfl, rfl, by decide +kernel, rfl, by decide +kernel, by decide +kernel⟩
theorem ok_is_integer (D : DefK K mg "is_integer" s_is_integer) (T : Txt K mg) : Cal P w K mg base CX0 1 "is_integer" (spIsInt K) := by
  refine D.cal sc_is_integer (fun _ _ _ _ _ _ us hl => match us, hl with | [_], _ => rfl) (fun vs H Q E h => ?_) fun f cdv A outer s H vs Q E hr h => ?_
  · obtain ⟨x, t, b1, b2, rfl, _⟩ := h; rfl
  · obtain ⟨x, t, b1, b2, rfl, ty, k1, k2, q⟩ := h
    refine ⟨_, (pss_one (ps_ret (pe_and (pe_callB call_isi (by rfl) T.b_isinstance (by decide +kernel) (pa_cons (pv 0) (pa_cons (pe_ty (n := "int") (by rfl) T.b_int (by decide +kernel)) pa_nil))) (pe_one (pe_not (pe_callB call_isi (by rfl) T.b_isinstance (by decide +kernel) (pa_cons (pv 0) (pa_cons (pe_ty (n := "bool") (by rfl) T.b_bool (by decide +kernel)) pa_nil)))))))), ?_⟩
    refine ⟨_, rfl, x, .ty "int", t, _, b1, rfl, .ty "int", ty, k1, b1, rfl, ?_⟩
    cases b1 with
    | false => exact iteF q
    | true => exact iteT ⟨_, rfl, x, .ty "bool", t, _, b2, rfl, .ty "bool", ty, k2 rfl, b2, rfl, q⟩
theorem sc_is_word : FnScope ["value"] ["value"] (defScope s_is_word) := ⟨rfl, rfl, rfl, by decide +kernel, rfl, by decide +kernel, by decide +kernel⟩
theorem ok_is_word (D : DefK K mg "is_word" s_is_word) (T : Txt K mg) : Cal P w K mg base CX0 1 "is_word" (spWord K) := by
  refine D.cal sc_is_word (fun _ _ _ _ _ _ us hl => match us, hl with | [_], _ => rfl) (fun vs H Q E h => ?_) fun f cdv A outer s H vs Q E hr h => ?_
  · obtain ⟨y, rfl, _⟩ := h; rfl
  · obtain ⟨y, rfl, h⟩ := h
    refine ⟨_, (pss_cons (ps_if (PW.pt (pw_or (pt_not (pt_val (pe_callB call_isi (by rfl) T.b_isinstance (by decide +kernel) (pa_cons (pv 0) (pa_cons (pe_ty (n := "str") (by rfl) T.b_str (by decide +kernel)) pa_nil))))) (pw_or1 (pt_cmpR op_gt (pe_callB call_len_str (by rfl) T.b_len (by decide +kernel) (pa_cons (pv 0) pa_nil)) pe_int (nomark _))))) (pss_one (ps_ret pe_bl)) pss_nil)
      (pss_one (ps_ret (pe_and (pe_m0 F.slot_str_isascii F.type_str_isascii mt_isascii (pv 0)) (pe_and (pe_m0 F.slot_str_isalpha F.type_str_isalpha mt_isalpha (pv 0)) (pe_one (pe_m0 F.slot_str_islower F.type_str_islower mt_islower (pv 0)))))))), ?_⟩
    rcases h with ⟨z, rfl, hz, q⟩ | ⟨t, ty, k, q⟩
    · refine ⟨_, rfl, .str z, .ty "str", _, _, true, rfl, .ty "str", .base (.str z), kit_ty (by decide +kernel), _, rfl, iteF ?_⟩
      refine ⟨_, rfl, z, rfl, hz, _, _, rfl, rfl, _, rfl, ?_⟩
      unfold wordB at q
      by_cases c : z.length ≤ 8
      · refine iteFe (decide_eq_false (by omega)) ?_
        rw [decide_eq_true c] at q
        refine ⟨_, rfl, ⟨_, rfl⟩, z, rfl, rfl, trivial, _, rfl, ?_⟩
        cases h1 : PySem.Txt.isascii z with
        | false => rw [h1] at q; exact iteF q
        | true =>
          rw [h1] at q
          refine iteT ⟨_, rfl, ⟨_, rfl⟩, z, rfl, rfl, trivial, _, rfl, ?_⟩
          cases h2 : PySem.Txt.isalpha z with
          | false => rw [h2] at q; exact iteF q
          | true =>
            rw [h2] at q
            exact iteT ⟨_, rfl, ⟨_, rfl⟩, z, rfl, rfl, trivial, q⟩
      · refine iteTe (decide_eq_true (by omega)) ?_
        rw [decide_eq_false c] at q
        exact q
    · exact ⟨_, rfl, y, .ty "str", t, _, false, rfl, .ty "str", ty, k, _, rfl, iteT q⟩
theorem sc_in_order : FnScope ["words"] ["words"] (defScope s_in_order) := ⟨rfl, rfl, rfl, by decide +kernel, rfl, by decide +kernel, by decide +kernel⟩
theorem ok_order (D : DefK K mg "_in_order" s_in_order) (T : Txt K mg) : Cal P w K mg base CX0 1 "_in_order" (spOrder K) := by
  refine D.cal sc_in_order (fun _ _ _ _ _ _ us hl => match us, hl with | [_], _ => rfl) (fun vs H Q E h => ?_) fun f cdv A outer s H vs Q E hr h => ?_
  · obtain ⟨a, b, ks, rfl, _⟩ := h; rfl
  · obtain ⟨a, b, ks, rfl, sq, few, k⟩ := h
    refine ⟨_, (pss_one (ps_ret (pe_callB (cr_sortW rfl) (by rfl) T.b_sorted (by decide +kernel) (pa_cons (pe_callTy (cr_setW2 rfl) (by rfl) T.b_set (by decide +kernel) (pa_cons (pv 0) pa_nil)) pa_nil)))), ?_⟩
    have big : (1000 : Nat) < scanBound := by decide
    have ln := onceW_len ks
    refine ⟨_, rfl, a, ks, rfl, ?_, by omega, fun p np => ⟨p, onceW ks, rfl, upd_same, by omega, fun ys q pm so nq => ?_⟩⟩
    · cases b with
      | true => exact .inl sq
      | false => exact .inr sq
    · have s1 := same_new (o := SetWO P w p (onceW ks)) np
      exact k ys q _ pm so (s1.free nq) (same_new' s1 nq) upd_same
theorem sc_are_different_keys : FnScope ["value", "most", "key"] ["value", "most"] (defScope s_are_different_keys) := ⟨rfl, rfl, rfl, by decide +kernel, rfl, by decide +kernel, by decide +kernel⟩
theorem ok_keys (D : DefK K mg "are_different_keys" s_are_different_keys) (T : Txt K mg) (G_is_word : Cal P w K mg base CX0 1 "is_word" (spWord K)) : Cal P w K mg base CX0 2 "are_different_keys" (spKeys K) := by
  refine D.cal sc_are_different_keys (fun _ _ _ _ _ _ us hl => match us, hl with | [_, _], _ => rfl) (fun vs H Q E h => ?_) fun f cdv A outer s H vs Q E hr h => ?_
  · obtain ⟨y, most, rfl, _⟩ := h; rfl
  · obtain ⟨y, most, rfl, h⟩ := h
    refine ⟨_, (pss_cons (ps_if (PW.pt (pw_or (pt_not (pt_val (pe_callB call_isiT (by rfl) T.b_isinstance (by decide +kernel) (pa_cons (pv 0) (pa_cons (pe_tup (pa_cons (pe_ty (n := "list") (by rfl) T.b_list (by decide +kernel)) (pa_cons (pe_ty (n := "tuple") (by rfl) T.b_tuple (by decide +kernel)) pa_nil))) pa_nil))))) (pw_or1 (pt_cmpR op_gt (pe_callB call_len (by rfl) T.b_len (by decide +kernel) (pa_cons (pv 0) pa_nil)) (pv 1) (nomark _))))) (pss_one (ps_ret pe_bl)) pss_nil)
      (pss_one (ps_ret (pe_and (pe_callB (cr_all rfl) (by rfl) T.b_all (by decide +kernel) (pa_cons (pe_lc (own := [("key", 2)]) (g := gName 2) (by rfl) sc_are_different_keys.nd (pi_either (pv 0)) (blkOk_by (own := [("key", 2)]) (N := ["value", "most", "key"]) (sc := defScope s_are_different_keys) (by decide +kernel)) (fun _ _ _ _ _ => pg_name (i := 2) sc_are_different_keys.nd rfl (Or.inl rfl)) (fun _ _ _ _ _ => pts_nil) (fun _ _ _ _ _ => (pe_c G_is_word hr (by decide) rfl (pa_cons (pv 2) pa_nil)))) pa_nil)) (pe_one (pe_cmpR op_eq (pe_callB call_lenW (by rfl) T.b_len (by decide +kernel) (pa_cons (pe_callTy (cr_setW2 rfl) (by rfl) T.b_set (by decide +kernel) (pa_cons (pv 0) pa_nil)) pa_nil)) (pe_callB call_len (by rfl) T.b_len (by decide +kernel) (pa_cons (pv 0) pa_nil)) (nomark _))))))), ?_⟩
    rcases h with ⟨a, b, xs, rfl, sq, ty, few, its, k⟩ | ⟨t, ty, k1, k2, k⟩
    · refine ⟨_, rfl, by show 2 ≤ sizeLine; decide, fun tp ntp => ?_⟩
      have s1 := same_new (o := .tup [.ty "list", .ty "tuple"]) ntp
      have sq1 : SqE K b _ a xs := SqE.keep (b := b) sq s1
      refine ⟨.ref a, tp, [.ty "list", .ty "tuple"], _, [.type "list", .type "tuple"], true, rfl, upd_same, .cons (.ty _) (.cons (.ty _) .nil), ty _ s1, kAny_seq b, true, rfl, iteF ?_⟩
      generalize upd H tp (.tup [.ty "list", .ty "tuple"]) = H1 at *
      have lv : LenV K (.ref a) H1 xs.length := by
        cases b with
        | true => exact .inl ⟨xs, sq1, rfl⟩
        | false => exact .inr ⟨xs, sq1, rfl⟩
      refine ⟨_, rfl, .ref a, _, rfl, lv, _, rfl, _, _, rfl, rfl, _, rfl, ?_⟩
      unfold keysB at k
      by_cases c : most < (xs.length : Int)
      · rw [decide_eq_true c] at k ⊢
        exact iteT (k _ s1)
      · rw [decide_eq_false c] at k ⊢
        refine iteF ⟨_, rfl, a, b, xs, rfl, sq1, fun D nD => lc_either (K := K) (b := b) (a := a) (xs := xs) (fun i H' => Same H1 H' ∧ H' D = some (.lst ((xs.take i).map fun x => V.bl (flagV x)))) ⟨same_new nD, upd_same⟩ (fun _ H' _ z => SqE.keep (b := b) sq1 z.1) ?_ ?_⟩
        · intro i x H' hx ⟨s2, eD⟩
          have tk : xs.take (i + 1) = xs.take i ++ [x] := by rw [List.take_succ, hx]; rfl
          have nDH : H D = none := s1.free nD
          have up : Same H1 (upd H' D (.lst (((xs.take i).map fun x => V.bl (flagV x)) ++ [V.bl (flagV x)]))) := fun c o e => by rw [upd_ne (ne_of_none e nD)]; exact s2 c o e
          have eq : upd H' D (.lst (((xs.take i).map fun x => V.bl (flagV x)) ++ [V.bl (flagV x)])) D = some (.lst ((xs.take (i + 1)).map fun x => V.bl (flagV x))) := by rw [upd_same, tk, List.map_append]; rfl
          have sz : ((xs.take i).map fun x => V.bl (flagV x)).length < sizeLine := by
            rw [List.length_map, List.length_take, sizeLine_eq]; omega
          refine ⟨rfl, yes_if ⟨_, rfl, x, rfl, ?_⟩⟩
          rcases (its x (List.mem_of_getElem? hx)).keep (s1.trans s2) with ⟨z, rfl, hz⟩ | ⟨t, ty2, k2, nz⟩
          · exact .inl ⟨z, rfl, hz, _, eD, sz, up, eq⟩
          · have fl : flagV x = false := by
              cases x with
              | str z => exact absurd rfl (nz z)
              | _ => rfl
            rw [fl] at up eq
            exact .inr ⟨t, ty2 _ (Same.refl _), k2, _, eD, sz, up, eq⟩
        · rintro H' ⟨s2, eD⟩
          rw [List.take_length] at eD
          have mm : (xs.map flagV).map V.bl = xs.map fun x => V.bl (flagV x) := by rw [List.map_map]; rfl
          refine ⟨D, xs.map flagV, rfl, SqL.of (by rw [mm]; exact eD), _, rfl, ?_⟩
          have al : (xs.map flagV).all id = xs.all flagV := by rw [List.all_map]; rfl
          rw [al]
          cases c2 : xs.all flagV with
          | false =>
            rw [c2] at k
            exact iteF (k _ (s1.trans s2))
          | true =>
            rw [c2] at k
            have ex : (xs.map txV).map V.str = xs := by
              rw [List.map_map]
              refine (List.map_congr_left fun x hx => ?_).trans (List.map_id xs)
              have fx := List.all_eq_true.mp c2 x hx
              cases x with
              | str z => rfl
              | _ => cases fx
            have sq2 : SqE K b H' a ((xs.map txV).map V.str) := by rw [ex]; exact SqE.keep (b := b) sq1 s2
            have big : (1000 : Nat) < scanBound := by decide
            refine iteT ⟨_, rfl, a, xs.map txV, rfl, ?_, by rw [List.length_map]; omega, fun p np => ⟨p, _, rfl, upd_same, _, rfl, .ref a, xs.length, rfl, ?_, rfl, ?_⟩⟩
            · cases b with
              | true => exact .inl sq2
              | false => exact .inr sq2
            · have sq3 : SqE K b (upd H' p (SetWO P w p (onceW (xs.map txV)))) a xs := SqE.keep (b := b) (SqE.keep (b := b) sq1 s2) (same_new np)
              cases b with
              | true => exact .inl ⟨xs, sq3, rfl⟩
              | false => exact .inr ⟨xs, sq3, rfl⟩
            · have q := k _ ((s1.trans s2).trans (same_new (o := SetWO P w p (onceW (xs.map txV))) np))
              have e : decide (V.int ((onceW (xs.map txV)).length : Int) = V.int (xs.length : Int)) = decide ((onceW (xs.map txV)).length = xs.length) := by
                rw [Bool.eq_iff_iff, decide_eq_true_iff, decide_eq_true_iff]
                exact ⟨fun h => by have := V.int.inj h; omega, fun h => by rw [h]⟩
              show Q (.bl (decide (V.int ((onceW (xs.map txV)).length : Int) = V.int (xs.length : Int)))) _
              rw [e]
              exact q
    · refine ⟨_, rfl, by show 2 ≤ sizeLine; decide, fun tp ntp => ?_⟩
      have s1 := same_new (o := .tup [.ty "list", .ty "tuple"]) ntp
      exact ⟨y, tp, [.ty "list", .ty "tuple"], t, [.type "list", .type "tuple"], false, rfl, upd_same, .cons (.ty _) (.cons (.ty _) .nil), ty _ s1, kAny_no k1 k2, false, rfl, iteT (k _ s1)⟩
end
end K09C
namespace K09C
open PySem PySem.Spec PyProof.Rows L2 Jg
local macro_rules | `(tactic| walk_at "rd1") => `(tactic| (first
  | refine ⟨_, rfl, ?_⟩
  | refine ⟨_, _, rfl, rfl, ?_⟩
  | refine ⟨_, _, rfl, ?_⟩
  | refine ⟨rfl, ?_⟩
  | (refine ⟨show (0 : Int) < _ by omega, ?_⟩)
  | (refine ⟨Or.inl ⟨by omega, by omega⟩, ?_⟩)
  | (refine ⟨Or.inr ⟨by omega, by omega⟩, ?_⟩)
  | (refine ⟨(⟨by decide, by decide, by decide⟩ : CPow _ _), ?_⟩)
  | refine Or.inl ⟨_, rfl, ?_⟩
  | refine Or.inr ⟨_, rfl, ?_⟩
  | fail "rd"))
local macro_rules | `(tactic| walk_at "rd") => `(tactic| repeat' walk_at "rd1")
@[irreducible] def spKeysI (K : PySem.W.Frag) : Sp := spKeys K
theorem KeysIs.i {K : PySem.W.Frag} {H : Hp} {y : V} {m : Int} {fl : Bool} (h : KeysIs K H y m fl) (H' : Hp) (Q : VK) (s : Same H H') (q : ∀ H2, Same H' H2 → Q (.bl fl) H2) : spKeysI K [y, .int m] H' Q E0 := by
  unfold spKeysI
  exact h H' Q s q
section
variable {P : Program} {w : World} {K : PySem.W.Frag} {mg : Str → Option Value} {base : Heap}
theorem sc_is_use : FnScope ["value", "accepted", "used"] ["value"] (defScope s_is_use) := ⟨rfl, rfl, rfl, by decide +kernel, rfl, by decide +kernel, by decide +kernel⟩
theorem ok_use_ (D : DefK K mg "_is_use" s_is_use) (T : Txt K mg) (G_is_word : Cal P w K mg base CX0 1 "is_word" (spWord K)) (G_are_different_keys : Cal P w K mg base CX0 2 "are_different_keys" (spKeysI K)) : Cal P w K mg base CX0 3 "_is_use" (spUse K) := by
  refine D.cal sc_is_use (fun _ _ _ _ _ _ us hl => match us, hl with | [_], _ => rfl) (fun vs H Q E h => ?_) fun f cdv A outer s H vs Q E hr h => ?_
  · obtain ⟨y, rfl, _⟩ := h; rfl
  · obtain ⟨y, rfl, h⟩ := h
    refine ⟨_, (pss_cons (ps_if (PW.pt (pw_or (pt_not (pt_val (pe_callB call_isi (by rfl) T.b_isinstance (by decide +kernel) (pa_cons (pv 0) (pa_cons (pe_ty (n := "tuple") (by rfl) T.b_tuple (by decide +kernel)) pa_nil))))) (pw_or1 (pt_cmpR op_ne (pe_callB call_len_seq (by rfl) T.b_len (by decide +kernel) (pa_cons (pv 0) pa_nil)) pe_int (nomark _))))) (pss_one (ps_ret pe_bl)) pss_nil)
      (pss_cons (ps_asg (pv 0) (pg_tup rfl (pgs_cons (pg_name (i := 1) sc_is_use.nd rfl (Or.inl rfl)) (pgs_cons (pg_name (i := 2) sc_is_use.nd rfl (Or.inl rfl)) pgs_nil))))
      (pss_one (ps_ret (pe_and (pe_c G_are_different_keys hr (by decide) rfl (pa_cons (pv 1) (pa_cons (pe_gc rfl T.g_MOST_ACCEPTED) pa_nil))) (pe_one (pe_c G_is_word hr (by decide) rfl (pa_cons (pv 2) pa_nil)))))))), ?_⟩
    rcases h with ⟨t, ty, kt, q⟩ | ⟨tp, xs, rfl, et, n2, q⟩ | ⟨tp, a, u, fa, fu, rfl, et, ka, wu, k⟩
    · exact ⟨_, rfl, y, .ty "tuple", t, _, false, rfl, .ty "tuple", ty, kt, false, rfl, iteT q⟩
    · refine ⟨_, rfl, .ref tp, .ty "tuple", _, _, true, rfl, .ty "tuple", .base (.tup et), kit_ty (by decide +kernel), true, rfl, iteF ?_⟩
      refine ⟨_, rfl, tp, _, rfl, .inr (SqT.of et), rfl, _, rfl, iteTe (show (!decide (V.int (xs.length : Int) = V.int 2)) = true by rw [decide_eq_false fun z => n2 (by injection z with z; omega)]; rfl) q⟩
    · refine ⟨_, rfl, .ref tp, .ty "tuple", _, _, true, rfl, .ty "tuple", .base (.tup et), kit_ty (by decide +kernel), true, rfl, iteF ?_⟩
      refine ⟨_, rfl, tp, _, rfl, .inr (SqT.of et), rfl, _, rfl, iteF ?_⟩
      refine ⟨_, rfl, tp, _, rfl, SqT.of et, rfl, _, _, rfl, _, _, rfl, rfl, ?_⟩
      refine ⟨_, rfl, ka.i H _ (.refl _) fun H' s1 => ⟨_, rfl, ?_⟩⟩
      have q := k H' s1
      cases fa with
      | false => exact iteF q
      | true =>
        refine iteT ⟨_, rfl, u, rfl, ?_⟩
        rcases wu.keep s1 with ⟨z, rfl, hz, e⟩ | ⟨e, t, ty, kt⟩
        · rw [e] at q; exact .inl ⟨z, rfl, hz, q⟩
        · rw [e] at q; exact .inr ⟨t, ty _ (.refl _), kt, q⟩
theorem ok_use (D : DefK K mg "_is_use" s_is_use) (T : Txt K mg) (G_is_word : Cal P w K mg base CX0 1 "is_word" (spWord K)) (G_are_different_keys : Cal P w K mg base CX0 2 "are_different_keys" (spKeys K)) : Cal P w K mg base CX0 3 "_is_use" (spUse K) :=
  ok_use_ D T G_is_word (by unfold spKeysI; exact G_are_different_keys)
end
end K09C
namespace K09C
open PySem PySem.Spec PyProof.Rows L2 Jg
local macro_rules | `(tactic| walk_at "rd1") => `(tactic| (first
  | refine ⟨_, rfl, ?_⟩
  | refine ⟨_, _, rfl, rfl, ?_⟩
  | refine ⟨_, _, rfl, ?_⟩
  | refine ⟨rfl, ?_⟩
  | (refine ⟨show (0 : Int) < _ by omega, ?_⟩)
  | (refine ⟨Or.inl ⟨by omega, by omega⟩, ?_⟩)
  | (refine ⟨Or.inr ⟨by omega, by omega⟩, ?_⟩)
  | (refine ⟨(⟨by decide, by decide, by decide⟩ : CPow _ _), ?_⟩)
  | refine Or.inl ⟨_, rfl, ?_⟩
  | refine Or.inr ⟨_, rfl, ?_⟩
  | fail "rd"))
local macro_rules | `(tactic| walk_at "rd") => `(tactic| repeat' walk_at "rd1")
theorem lc_w {J : It} {n : Nat} {G : Hp → Prop} {Y : Nat → Hp → V → Hp → Prop} (W : Walk J n G Y) {g : TG} {tt : TT} {te : TE} {vs : List Nat} {σ : L2.St} {H1 : Hp} {D : Addr} {Qd : Hp → Prop} (Pv : Nat → Hp → Prop) (h0 : Pv 0 (upd H1 D (.lst []))) (hG : ∀ i H, Pv i H → G H)
    (hs : ∀ i H x H', i < n → Pv i H → Y i H x H' → g x (wipe σ vs) H' fun σ2 H2 => wipe σ2 vs = wipe σ vs ∧ tt σ2 H2 fun b H3 =>
      if b = true then te σ2 H3 fun y H4 => ∃ acc, H4 D = some (.lst acc) ∧ acc.length < sizeLine ∧ Pv (i + 1) (upd H4 D (.lst (acc ++ [y]))) else Pv (i + 1) H3) (hd : ∀ H, Pv n H → Qd H) : LcAsk J g tt te vs σ H1 D Qd := by
  refine ⟨fun i m H => m = n - i ∧ i ≤ n ∧ Pv i H, ⟨_, rfl, Nat.zero_le _, h0⟩, ?_⟩
  rintro i m H ⟨rfl, hi, p⟩
  rcases Nat.lt_or_ge i n with lt | ge
  · exact .inr ⟨W.goes i H lt (hG i H p), Pv (i + 1), (fun H' p' => ⟨_, by omega, rfl, lt, p'⟩), fun x H' y => hs i H x H' lt p (W.yields i H x H' lt (hG i H p) y)⟩
  · have e : i = n := by omega
    subst e
    exact .inl ⟨W.stops H (hG i H p), hd H p⟩
structure RowOk (K : PySem.W.Frag) (d : Addr) (H : Hp) (r : Row) : Prop where
  at_ : H r.t = some (.tup [.ref r.a, .str r.u])
  nt : r.t ≠ d
  na : r.a ≠ d
  sq : SqE K r.b H r.a (r.ks.map V.str)
  ty : ∀ H', SameB d H H' → TyX K H' (.ref r.a) (.type (if r.b then "list" else "tuple"))
  few : r.ks.length ≤ 500
  sh : ∀ k ∈ r.ks, k.length ≤ sizeLine
  zu : r.z.length ≤ sizeLine ∧ r.u.length ≤ sizeLine
def rowB (r : Row) : Bool := wordB r.z && (keysB (r.ks.map V.str) 8 && wordB r.u)
def dictOf (rows : List Row) : List (Key × V) := rows.map fun r => (Sum.inr r.z, V.ref r.t)
theorem val_row : ∀ (rows : List Row) (r : Row), (rows.map (·.z)).Nodup → r ∈ rows → valV (dictOf rows) (Sum.inr r.z) = some (.ref r.t) := by
  intro rows
  induction rows with
  | nil => intro r _ h; cases h
  | cons p rest ih =>
    intro r nd hr
    rw [List.map_cons, List.nodup_cons] at nd
    show valV ((Sum.inr p.z, V.ref p.t) :: dictOf rest) (Sum.inr r.z) = _
    rcases List.mem_cons.mp hr with e | h
    · rw [e]; exact valV_pos (p := (Sum.inr p.z, V.ref p.t)) rfl
    · have ne : ¬ ((Sum.inr p.z, V.ref p.t) : Key × V).1 = Sum.inr r.z := fun q => nd.1 (List.mem_map.mpr ⟨r, h, (Sum.inr.inj q).symm⟩)
      rw [valV_neg ne]
      exact ih r nd.2 h
theorem SqE.lock {K : PySem.W.Frag} {b : Bool} {d a : Addr} {H H' : Hp} {xs : List V} (h : SqE K b H a xs) (s : SameB d H H') (n : a ≠ d) : SqE K b H' a xs := by
  cases b with
  | true =>
    rcases (show SqL K H a xs from h) with (h | ⟨o, h⟩) | h
    · exact .inl (.inl (s _ _ h n))
    · exact .inl (.inr ⟨o, s _ _ h n⟩)
    · exact .inr h
  | false =>
    rcases (show SqT K H a xs from h) with (h | ⟨o, h⟩) | h
    · exact .inl (.inl (s _ _ h n))
    · exact .inl (.inr ⟨o, s _ _ h n⟩)
    · exact .inr h
@[irreducible] def spUseI (K : PySem.W.Frag) : Sp := spUse K
theorem UseB.i {K : PySem.W.Frag} {d : Addr} {H : Hp} {y : V} {fl : Bool} (h : UseB K d H y fl) (H' : Hp) (Q : VK) (s : SameB d H H') (q : ∀ H2, Same H' H2 → Q (.bl fl) H2) : spUseI K [y] H' Q E0 := by
  unfold spUseI
  exact h H' Q s q
theorem val_mem {kvs : List (Key × V)} {k : Key} {v : V} (nd : (kvs.map (·.1)).Nodup) (h : (k, v) ∈ kvs) : valV kvs k = some v := by
  induction kvs with
  | nil => cases h
  | cons p rest ih =>
    rw [List.map_cons, List.nodup_cons] at nd
    rcases List.mem_cons.mp h with e | h
    · rw [← e]; exact valV_pos (p := (k, v)) rfl
    · have ne : ¬ p.1 = k := fun q => nd.1 (List.mem_map.mpr ⟨(k, v), h, q.symm⟩)
      rw [valV_neg ne]
      exact ih nd.2 h
theorem ent_len {K : PySem.W.Frag} {d : Addr} {H : Hp} : ∀ {kvs : List (Key × V)} {fs : List Bool}, Paired (EntB K d H) kvs fs → kvs.length = fs.length
  | _, _, .nil => rfl
  | _, _, .cons _ r => by rw [List.length_cons, List.length_cons, ent_len r]
theorem ent_get {K : PySem.W.Frag} {d : Addr} {H : Hp} : ∀ {kvs : List (Key × V)} {fs : List Bool} {i : Nat} {e : Key × V}, Paired (EntB K d H) kvs fs → kvs[i]? = some e → ∃ f, fs[i]? = some f ∧ EntB K d H e f
  | _, _, i, _, .nil, h => by simp at h
  | _, _, 0, _, .cons a _, h => by
    have h' := Option.some.inj h
    subst h'
    exact ⟨_, rfl, a⟩
  | _, _, i + 1, _, .cons _ r, h => let ⟨f, a, b⟩ := ent_get (i := i) r (by simpa using h); ⟨f, by simpa using a, b⟩
def spRoles (P : Program) (w : World) (K : PySem.W.Frag) : Sp := fun vs H Q _ => ∃ y, vs = [y] ∧
  ((∃ t, TyX K H y t ∧ kit K t "dict" false ∧ Q (.bl false) H) ∨
   (∃ d kvs, y = .ref d ∧ H d = some (.dK kvs) ∧ (kvs.length < 1 ∨ 3 < kvs.length) ∧ Q (.bl false) H) ∨
   (∃ d kvs, ∃ fs : List Bool, y = .ref d ∧ H d = some (.dK kvs) ∧ 1 ≤ kvs.length ∧ kvs.length ≤ 3 ∧ (kvs.map (·.1)).Nodup ∧ Paired (EntB K d H) kvs fs ∧ ∀ H', Same H H' → Q (.bl (fs.all id)) H') ∨
   (∃ d, y = .ref d ∧ H d = some (NkO P w d) ∧ ∀ H', Same H H' → Q (.bl false) H'))
section
variable {P : Program} {w : World} {K : PySem.W.Frag} {mg : Str → Option Value} {base : Heap}
theorem sc_are_roles : FnScope ["value", "role"] ["value"] (defScope s_are_roles) := ⟨rfl, rfl, rfl, by decide +kernel, rfl, by decide +kernel, by decide +kernel⟩
theorem ok_roles_ (D : DefK K mg "_are_roles" s_are_roles) (T : Txt K mg) (G_is_word : Cal P w K mg base CX0 1 "is_word" (spWord K)) (G_is_use : Cal P w K mg base CX0 3 "_is_use" (spUseI K)) : Cal P w K mg base CX0 4 "_are_roles" (spRoles P w K) := by
  refine D.cal sc_are_roles (fun _ _ _ _ _ _ us hl => match us, hl with | [_], _ => rfl) (fun vs H Q E h => ?_) fun f cdv A outer s H vs Q E hr h => ?_
  · obtain ⟨y, rfl, _⟩ := h; rfl
  · obtain ⟨y, rfl, h⟩ := h
    refine ⟨_, (pss_cons (ps_if (PW.pt (pw_or (pt_not (pt_val (pe_callB (r := rIsiE P w K) call_isiE (by rfl) T.b_isinstance (by decide +kernel) (pa_cons (pv 0) (pa_cons (pe_ty (n := "dict") (by rfl) T.b_dict (by decide +kernel)) pa_nil))))) (pw_or1 (pt_not (pt_chain op_le op_le pe_int (pe_callB (r := rLenE P w) call_lenE (by rfl) T.b_len (by decide +kernel) (pa_cons (pv 0) pa_nil)) (pe_gc rfl T.g_MOST_ROLES)))))) (pss_one (ps_ret pe_bl)) pss_nil)
      (pss_one (ps_ret (pe_lock (pe_callB (cr_all rfl) (by rfl) T.b_all (by decide +kernel) (pa_cons (pe_lc (own := [("role", 1)]) (g := gName 1) (by rfl) sc_are_roles.nd (pi_keysE (pv 0)) (blkOk_by (own := [("role", 1)]) (N := ["value", "role"]) (sc := defScope s_are_roles) (by decide +kernel)) (fun _ _ _ _ _ => pg_name (i := 1) sc_are_roles.nd rfl (Or.inl rfl)) (fun _ _ _ _ _ => pts_nil) (fun _ _ _ _ _ => (pe_and (pe_c G_is_word hr (by decide) rfl (pa_cons (pv 1) pa_nil)) (pe_one (pe_c G_is_use hr (by decide) rfl (pa_cons (pe_dget (Nat.lt_of_le_of_lt (Nat.add_le_add_left (by decide : 1 ≤ 64) _) hr.units) (pv 0) (pv 1) (fun _ _ => rfl)) pa_nil)))))) pa_nil)))))), ?_⟩
    have lock : ∀ {d : Addr} {o : Obj} {u : HO}, H d = some u → SameB d H (upd H d (.frz o u)) ∧ ∀ H', Same (upd H d (.frz o u)) H' → Same H (upd H' d u) := fun {d o u} ed =>
      ⟨fun q o e n => by rw [upd_ne n]; exact e, fun H' s q o e => by
        by_cases c : q = d
        · rw [c] at e ⊢
          rw [upd_same, ← ed]; exact e
        · rw [upd_ne c]
          exact s _ _ (by rw [upd_ne c]; exact e)⟩
    rcases h with ⟨t, ty, kt, q⟩ | ⟨d, kvs, rfl, ed, bad, q⟩ | ⟨d, kvs, fs, rfl, ed, n1, n3, nd, pr, k⟩ | ⟨d, rfl, ed, k⟩
    · exact ⟨_, rfl, .inl ⟨y, .ty "dict", t, _, false, rfl, .ty "dict", ty, kt, false, rfl, iteT q⟩⟩
    · refine ⟨_, rfl, .inl ⟨.ref d, .ty "dict", _, _, true, rfl, .ty "dict", .base (.dK ed), kit_ty (by decide +kernel), true, rfl, iteF ?_⟩⟩
      refine ⟨_, rfl, .inl ⟨d, _, rfl, ed, 1, (kvs.length : Int), rfl, rfl, _, rfl, ?_⟩⟩
      rcases bad with b | b
      · exact iteFe (decide_eq_false (by omega)) ⟨_, rfl, iteT q⟩
      · by_cases c : (1 : Int) ≤ (kvs.length : Int)
        · exact iteTe (decide_eq_true c) ⟨_, _, rfl, rfl, _, rfl, iteTe (by rw [decide_eq_false (by omega)]; rfl) q⟩
        · exact iteFe (decide_eq_false c) ⟨_, rfl, iteT q⟩
    · refine ⟨_, rfl, .inl ⟨.ref d, .ty "dict", _, _, true, rfl, .ty "dict", .base (.dK ed), kit_ty (by decide +kernel), true, rfl, iteF ?_⟩⟩
      refine ⟨_, rfl, .inl ⟨d, _, rfl, ed, 1, (kvs.length : Int), rfl, rfl, _, rfl, ?_⟩⟩
      refine iteTe (decide_eq_true (by omega)) ⟨_, _, rfl, rfl, _, rfl, iteFe (by rw [decide_eq_true (by omega)]; rfl) ?_⟩
      refine ⟨d, _, ed, trivial, fun od => ?_⟩
      have el : upd H d (.frz od (.dK kvs)) d = some (.frz od (.dK kvs)) := upd_same
      obtain ⟨sl, back⟩ := lock (o := od) ed
      generalize upd H d (.frz od (.dK kvs)) = HL at *
      have fl := ent_len pr
      refine ⟨_, rfl, d, od, rfl, .inl ⟨_, el, fun D nD => lc_w walk_keys (fun i H' => Same HL H' ∧ H' D = some (.lst ((fs.take i).map V.bl))) ⟨same_new nD, upd_same⟩ (fun i H' z => z.1 _ _ el) ?_ ?_⟩⟩
      · rintro i H' x H2 lt ⟨s2, eD⟩ ⟨rfl, kk, vv, ek, rfl⟩
        obtain ⟨f0, ef, en⟩ := ent_get pr ek
        have tk : fs.take (i + 1) = fs.take i ++ [f0] := by rw [List.take_succ, ef]; rfl
        have l3 : ((fs.take i).map V.bl).length < sizeLine := by rw [List.length_map, List.length_take, sizeLine_eq]; omega
        have fin : ∀ H4, Same H2 H4 → ∃ acc, H4 D = some (.lst acc) ∧ acc.length < sizeLine ∧ Same HL (upd H4 D (.lst (acc ++ [V.bl f0]))) ∧ upd H4 D (.lst (acc ++ [V.bl f0])) D = some (.lst ((fs.take (i + 1)).map V.bl)) := fun H4 s4 =>
          ⟨_, s4 _ _ eD, l3, (fun q o e => by rw [upd_ne (ne_of_none e nD)]; exact s4 _ _ (s2 _ _ e)), by rw [upd_same, tk, List.map_append]; rfl⟩
        have sL : SameB d H H2 := fun q o e n => s2 _ _ (sl q o e n)
        refine ⟨rfl, yes_if ?_⟩
        rcases en with ⟨z, ez, hz, c⟩ | ⟨i0, ez, c⟩
        · have ez' : kk = .inr z := ez
          subst ez'
          refine ⟨_, rfl, .str z, rfl, .inl ⟨z, rfl, hz, _, rfl, ?_⟩⟩
          rcases c with ⟨wz, rfl⟩ | ⟨wz, ub⟩
          · rw [wz]
            exact iteF (fin _ (.refl _))
          · rw [wz]
            refine iteT ⟨_, rfl, _, rfl, d, vv, rfl, .inl ⟨kvs, .inr z, .inr ⟨od, s2 _ _ el⟩, rfl, (val_mem nd (List.mem_of_getElem? ek)).symm⟩, ub.i H2 _ sL fun H' s' => fin H' s'⟩
        · have ez' : kk = .inl i0 := ez
          subst ez' c
          exact ⟨_, rfl, .int i0, rfl, .inr ⟨_, .base (.int _), kit_ty (by decide +kernel), _, rfl, iteF (fin _ (.refl _))⟩⟩
      · rintro H' ⟨s2, eD⟩
        rw [fl, List.take_length] at eD
        refine ⟨D, fs, rfl, SqL.of eD, s2 _ _ el, ?_⟩
        exact k _ (back _ s2)
    · refine ⟨_, rfl, .inr ⟨d, rfl, ed, true, rfl, iteF ?_⟩⟩
      refine ⟨_, rfl, .inr ⟨d, rfl, ed, 1, 1, rfl, rfl, _, rfl, ?_⟩⟩
      refine iteTe (decide_eq_true (by omega)) ⟨_, _, rfl, rfl, _, rfl, iteFe (by rw [decide_eq_true (by omega)]; rfl) ?_⟩
      refine ⟨d, _, ed, trivial, fun od => ?_⟩
      have el : upd H d (.frz od (NkO P w d)) d = some (.frz od (NkO P w d)) := upd_same
      obtain ⟨sl, back⟩ := lock (o := od) ed
      generalize upd H d (.frz od (NkO P w d)) = HL at *
      refine ⟨_, rfl, d, od, rfl, .inr ⟨el, fun D nD => lc_w walk_none (fun i H' => Same HL H' ∧ H' D = some (.lst (([false].take i).map V.bl))) ⟨same_new nD, upd_same⟩ (fun i H' z => z.1 _ _ el) ?_ ?_⟩⟩
      · rintro i H' x H2 lt ⟨s2, eD⟩ ⟨rfl, rfl⟩
        obtain rfl : i = 0 := by omega
        refine ⟨rfl, yes_if ⟨_, rfl, .non, rfl, .inr ⟨_, .base .non, kit_ty (by decide +kernel), _, rfl, iteF ?_⟩⟩⟩
        exact ⟨_, eD, by show 0 < sizeLine; decide, (fun q o e => by rw [upd_ne (ne_of_none e nD)]; exact s2 _ _ e), upd_same⟩
      · rintro H' ⟨s2, eD⟩
        refine ⟨D, [false], rfl, SqL.of eD, s2 _ _ el, ?_⟩
        exact k _ (back _ s2)
theorem ok_roles (D : DefK K mg "_are_roles" s_are_roles) (T : Txt K mg) (G_is_word : Cal P w K mg base CX0 1 "is_word" (spWord K)) (G_is_use : Cal P w K mg base CX0 3 "_is_use" (spUse K)) : Cal P w K mg base CX0 4 "_are_roles" (spRoles P w K) :=
  ok_roles_ D T G_is_word (by unfold spUseI; exact G_is_use)
end
end K09C
namespace K09C
open PySem PySem.Spec PyProof.Rows L2 Jg
local macro_rules | `(tactic| walk_at "rd1") => `(tactic| (first
  | refine ⟨_, rfl, ?_⟩
  | refine ⟨_, _, rfl, rfl, ?_⟩
  | refine ⟨_, _, rfl, ?_⟩
  | refine ⟨rfl, ?_⟩
  | (refine ⟨show (0 : Int) < _ by omega, ?_⟩)
  | (refine ⟨Or.inl ⟨by omega, by omega⟩, ?_⟩)
  | (refine ⟨Or.inr ⟨by omega, by omega⟩, ?_⟩)
  | (refine ⟨(⟨by decide, by decide, by decide⟩ : CPow _ _), ?_⟩)
  | refine Or.inl ⟨_, rfl, ?_⟩
  | refine Or.inr ⟨_, rfl, ?_⟩
  | fail "rd"))
local macro_rules | `(tactic| walk_at "rd") => `(tactic| repeat' walk_at "rd1")
def RolesIs (P : Program) (w : World) (K : PySem.W.Frag) (H : Hp) (y : V) (fl : Bool) : Prop := ∀ (H' : Hp) (Q : VK), Same H H' → (∀ H2, Same H' H2 → Q (.bl fl) H2) → spRoles P w K [y] H' Q E0
def wrongV (f1 f2 f3 f4 : Bool) : V := if f1 = false then .str "roles" else if f2 = false then .str "vouchers" else if f3 = false then .str "needed" else if f4 = false then .str "signers" else .non
def spWrong (P : Program) (w : World) (K : PySem.W.Frag) : Sp := fun vs H Q _ => ∃ r v n s f1 f2 f3 f4, vs = [r, v, n, s] ∧ RolesIs P w K H r f1 ∧ KeysIs K H v 4 f2 ∧ NeedIs K H n f3 ∧ ((s = .non ∧ f4 = true) ∨ (s ≠ .non ∧ KeysIs K H s 4 f4)) ∧ ∀ H', Same H H' → Q (wrongV f1 f2 f3 f4) H'
@[irreducible] def spRolesI (P : Program) (w : World) (K : PySem.W.Frag) : Sp := spRoles P w K
theorem RolesIs.i {P : Program} {w : World} {K : PySem.W.Frag} {H : Hp} {y : V} {fl : Bool} (h : RolesIs P w K H y fl) (H' : Hp) (Q : VK) (s : Same H H') (q : ∀ H2, Same H' H2 → Q (.bl fl) H2) : spRolesI P w K [y] H' Q E0 := by
  unfold spRolesI
  exact h H' Q s q
section
variable {P : Program} {w : World} {K : PySem.W.Frag} {mg : Str → Option Value} {base : Heap}
theorem sc_wrong_part : FnScope ["roles", "vouchers", "needed", "signers"] ["roles", "vouchers", "needed", "signers"] (defScope s_wrong_part) := ⟨rfl, rfl, rfl, by decide +kernel, rfl, by decide +kernel, by decide +kernel⟩
theorem ok_wrong_ (D : DefK K mg "_wrong_part" s_wrong_part) (T : Txt K mg) (G_is_integer : Cal P w K mg base CX0 1 "is_integer" (spIsInt K)) (G_are_different_keys : Cal P w K mg base CX0 2 "are_different_keys" (spKeysI K)) (G_are_roles : Cal P w K mg base CX0 4 "_are_roles" (spRolesI P w K)) : Cal P w K mg base CX0 5 "_wrong_part" (spWrong P w K) := by
  refine D.cal sc_wrong_part (fun _ _ _ _ _ _ us hl => match us, hl with | [_, _, _, _], _ => rfl) (fun vs H Q E h => ?_) fun f cdv A outer s H vs Q E hr h => ?_
  · obtain ⟨r, v, n, s, f1, f2, f3, f4, rfl, _⟩ := h; rfl
  · obtain ⟨r, v, n, sg, f1, f2, f3, f4, rfl, a1, a2, a3, a4, k⟩ := h
    refine ⟨_, (pss_cons (ps_if (pt_not (pt_val (pe_c G_are_roles hr (by decide) rfl (pa_cons (pv 0) pa_nil)))) (pss_one (ps_ret pe_str)) pss_nil)
      (pss_cons (ps_if (pt_not (pt_val (pe_c G_are_different_keys hr (by decide) rfl (pa_cons (pv 1) (pa_cons (pe_gc rfl T.g_MOST_VOUCHERS) pa_nil))))) (pss_one (ps_ret pe_str)) pss_nil)
      (pss_cons (ps_if (PW.pt (pw_or (pt_not (pt_val (pe_c G_is_integer hr (by decide) rfl (pa_cons (pv 2) pa_nil)))) (pw_or1 (pt_not (pt_chain op_le op_le pe_int (pv 2) (pe_gc rfl T.g_MOST_NEEDED)))))) (pss_one (ps_ret pe_str)) pss_nil)
      (pss_cons (ps_if (PW.pt (pw_and (pt_cmpR op_notN (pv 3) pe_non (nomark _)) (pw_and1 (pt_not (pt_val (pe_c G_are_different_keys hr (by decide) rfl (pa_cons (pv 3) (pa_cons (pe_gc rfl T.g_MOST_VOUCHERS) pa_nil)))))))) (pss_one (ps_ret pe_str)) pss_nil)
      (pss_one (ps_ret pe_non)))))), ?_⟩
    refine ⟨_, rfl, a1.i H _ (Same.refl _) fun H1 s1 => ⟨_, rfl, ?_⟩⟩
    cases f1 with
    | false => exact iteT (k _ s1)
    | true =>
      refine iteF ⟨_, rfl, a2.i H1 _ s1 fun H2 s2 => ⟨_, rfl, ?_⟩⟩
      have s12 := s1.trans s2
      cases f2 with
      | false => exact iteT (k _ s12)
      | true =>
        refine iteF ?_
        rcases a3 with ⟨i, rfl, e3⟩ | ⟨rfl, t, b1, b2, ty, k1, k2, e⟩
        · refine ⟨_, rfl, .int i, _, true, false, rfl, .base (.int i), kii, fun _ => kib, true, rfl, iteF ?_⟩
          refine ⟨_, rfl, 0, i, rfl, rfl, _, rfl, ?_⟩
          by_cases c1 : 0 ≤ i
          · refine iteTe (decide_eq_true c1) ⟨_, _, rfl, rfl, _, rfl, ?_⟩
            by_cases c2 : i ≤ 4
            · rw [decide_eq_true c1, decide_eq_true c2] at e3
              subst e3
              refine iteFe (by rw [decide_eq_true c2]; rfl) ⟨_, rfl, rfl, _, rfl, ?_⟩
              rcases a4 with ⟨rfl, rfl⟩ | ⟨nn, a4⟩
              · exact iteF (k _ s12)
              · refine iteTe (by rw [decide_eq_false nn]; rfl) ⟨_, rfl, a4.i H2 _ s12 fun H3 s3 => ⟨_, rfl, ?_⟩⟩
                cases f4 with
                | false => exact iteT (k _ (s12.trans s3))
                | true => exact iteF (k _ (s12.trans s3))
            · rw [decide_eq_false c2, Bool.and_false] at e3
              subst e3
              exact iteTe (by rw [decide_eq_false c2]; rfl) (k _ s12)
          · rw [decide_eq_false c1, Bool.false_and] at e3
            subst e3
            exact iteFe (decide_eq_false c1) ⟨_, rfl, iteT (k _ s12)⟩
        · refine ⟨_, rfl, n, t, b1, b2, rfl, ty _ s12, k1, k2, _, rfl, ?_⟩
          rw [e]
          exact iteT (k _ s12)
theorem ok_wrong (D : DefK K mg "_wrong_part" s_wrong_part) (T : Txt K mg) (G_is_integer : Cal P w K mg base CX0 1 "is_integer" (spIsInt K)) (G_are_different_keys : Cal P w K mg base CX0 2 "are_different_keys" (spKeys K)) (G_are_roles : Cal P w K mg base CX0 4 "_are_roles" (spRoles P w K)) : Cal P w K mg base CX0 5 "_wrong_part" (spWrong P w K) :=
  ok_wrong_ D T G_is_integer (by unfold spKeysI; exact G_are_different_keys) (by unfold spRolesI; exact G_are_roles)
end
end K09C
namespace K09C
open PySem PySem.Spec PyProof.Rows L2 Jg
local macro_rules | `(tactic| walk_at "rd1") => `(tactic| (first
  | refine ⟨_, rfl, ?_⟩
  | refine ⟨_, _, rfl, rfl, ?_⟩
  | refine ⟨_, _, rfl, ?_⟩
  | refine ⟨rfl, ?_⟩
  | (refine ⟨show (0 : Int) < _ by omega, ?_⟩)
  | (refine ⟨Or.inl ⟨by omega, by omega⟩, ?_⟩)
  | (refine ⟨Or.inr ⟨by omega, by omega⟩, ?_⟩)
  | (refine ⟨(⟨by decide, by decide, by decide⟩ : CPow _ _), ?_⟩)
  | refine Or.inl ⟨_, rfl, ?_⟩
  | refine Or.inr ⟨_, rfl, ?_⟩
  | fail "rd"))
local macro_rules | `(tactic| walk_at "rd") => `(tactic| repeat' walk_at "rd1")
theorem same_mut {H H1 : Hp} {p : Addr} {o : HO} (s : Same H H1) (h : H p = none) : Same H (upd H1 p o) := fun b u e => by rw [upd_ne (ne_of_none e h)]; exact s b u e
theorem KLOk.its {K : PySem.W.Frag} {H : Hp} {l : KL} (h : KLOk K H l) : ∀ x ∈ l.ks.map V.str, ItOk K H x := fun x hx => by
  obtain ⟨z, hz, rfl⟩ := List.mem_map.mp hx
  exact .inl ⟨z, rfl, h.sh z hz⟩
theorem KLOk.is {K : PySem.W.Frag} {H : Hp} {l : KL} (h : KLOk K H l) (m : Int) : KeysIs K H (.ref l.a) m (keysB (l.ks.map V.str) m) := fun H' Q s q =>
  ⟨.ref l.a, m, rfl, .inl ⟨l.a, l.b, _, rfl, (h.keep s).sq, (h.keep s).ty, by rw [List.length_map]; exact h.few, (h.keep s).its, q⟩⟩
theorem row_ent {K : PySem.W.Frag} {d : Addr} {H : Hp} {r : Row} (R : RowOk K d H r) : EntB K d H (.inr r.z, .ref r.t) (rowB r) := by
  refine .inl ⟨r.z, rfl, R.zu.1, ?_⟩
  unfold rowB
  cases c : wordB r.z with
  | false => exact .inl ⟨rfl, rfl⟩
  | true =>
    refine .inr ⟨rfl, fun H' Q s q => ⟨_, rfl, .inr (.inr ⟨r.t, .ref r.a, .str r.u, keysB (r.ks.map V.str) 8, wordB r.u, rfl, s _ _ R.at_ R.nt, fun H2 Q2 s2 q2 => ⟨.ref r.a, 8, rfl, .inl ⟨r.a, r.b, r.ks.map V.str, rfl, SqE.keep (SqE.lock (b := r.b) R.sq s R.na) s2, fun H3 s3 => R.ty H3 fun b o e n => s3 _ _ (s2 _ _ (s b o e n)), by rw [List.length_map]; exact R.few, fun x hx => ?_, q2⟩⟩, .inl ⟨r.u, rfl, R.zu.2, rfl⟩, q⟩)⟩⟩
    obtain ⟨z, hz, rfl⟩ := List.mem_map.mp hx
    exact .inl ⟨z, rfl, R.sh z hz⟩
theorem rows_ent {K : PySem.W.Frag} {d : Addr} {H : Hp} : ∀ {rows : List Row}, (∀ r ∈ rows, RowOk K d H r) → Paired (EntB K d H) (dictOf rows) (rows.map rowB)
  | [], _ => .nil
  | r :: rest, h => .cons (row_ent (h r List.mem_cons_self)) (rows_ent fun q hq => h q (List.mem_cons_of_mem _ hq))
theorem ents_keep {K : PySem.W.Frag} {d : Addr} {H H' : Hp} (s : SameB d H H') : ∀ {kvs : List (Key × V)} {fs : List Bool}, Paired (EntB K d H) kvs fs → Paired (EntB K d H') kvs fs
  | _, _, .nil => .nil
  | _, _, .cons a r => .cons (a.keep s) (ents_keep s r)
theorem roles_of {P : Program} {w : World} {K : PySem.W.Frag} {H : Hp} {d : Addr} {kvs : List (Key × V)} {fs : List Bool} (ed : H d = some (.dK kvs)) (h1 : 1 ≤ kvs.length) (h3 : kvs.length ≤ 3) (nd : (kvs.map (·.1)).Nodup) (pr : Paired (EntB K d H) kvs fs) : RolesIs P w K H (.ref d) (fs.all id) := fun H' Q s q =>
  ⟨_, rfl, .inr (.inr (.inl ⟨d, kvs, fs, rfl, s _ _ ed, h1, h3, nd, ents_keep (fun b o e _ => s b o e) pr, q⟩))⟩
theorem roles_is {P : Program} {w : World} {K : PySem.W.Frag} {H : Hp} {d : Addr} {rows : List Row} (ed : H d = some (.dK (dictOf rows))) (h1 : 1 ≤ rows.length) (h3 : rows.length ≤ 3) (nd : (rows.map (·.z)).Nodup) (ok : ∀ r ∈ rows, RowOk K d H r) : RolesIs P w K H (.ref d) (rows.all rowB) := by
  have dl : (dictOf rows).length = rows.length := List.length_map ..
  have al : (rows.map rowB).all id = rows.all rowB := by rw [List.all_map]; rfl
  rw [← al]
  refine roles_of ed (by omega) (by omega) ?_ (rows_ent ok)
  have e : (dictOf rows).map (·.1) = (rows.map (·.z)).map Sum.inr := by unfold dictOf; rw [List.map_map, List.map_map]; rfl
  rw [e]
  exact List.pairwise_map.mpr (List.Pairwise.imp (fun h q => h (Sum.inr.inj q)) nd)
theorem needs_is {K : PySem.W.Frag} {H : Hp} {ne : Int} (h0 : 0 ≤ ne) (h4 : ne ≤ 4) : NeedIs K H (.int ne) true := .inl ⟨ne, rfl, by rw [decide_eq_true h0, decide_eq_true h4]; rfl⟩
theorem keys_once {ks : List Str} {m : Int} (h : keysB (ks.map V.str) m = true) : ks.Nodup ∧ (ks.length : Int) ≤ m ∧ ∀ k ∈ ks, wordB k = true := by
  unfold keysB at h
  obtain ⟨h1, h2⟩ := Bool.and_eq_true_iff.mp h
  obtain ⟨h3, h4⟩ := Bool.and_eq_true_iff.mp h2
  have e : (ks.map V.str).map txV = ks := by rw [List.map_map]; exact (List.map_congr_left fun _ _ => rfl).trans (List.map_id ks)
  rw [e, List.length_map] at h4
  rw [List.length_map] at h1
  have nd := (onceW_all ks []).mp (by simpa [onceW] using of_decide_eq_true h4)
  refine ⟨nd.1, ?_, fun k hk => List.all_eq_true.mp h3 _ (List.mem_map_of_mem hk)⟩
  have z : ¬ m < (ks.length : Int) := by simpa using h1
  omega
theorem once_perm {ks : List Str} (h : ks.Nodup) : (onceW ks).Perm ks := by
  exact (List.perm_ext_iff_of_nodup (l₁ := onceW ks) (onceW_nodup ks [] List.nodup_nil) h).mpr fun z => onceW_mem
/-- contents that are made of what was given -/
structure Made (rows : List Row) (vks : List Str) (ne : Int) (sks : List Str) (c : Ct) : Prop where
  zs : c.us.map (·.z) = srtW (rows.map (·.z))
  us : ∀ r ∈ c.us, ∃ q ∈ rows, q.z = r.z ∧ q.u = r.u ∧ r.ks = srtW q.ks
  vo : c.vo = srtW vks
  ne : c.ne = ne
  si : c.si = srtW sks
theorem CAt.wider {S S' : Addr → Prop} {C : Addr} {H : Hp} {x : Addr} {c : Ct} (h : CAt S C H x c) (s : ∀ q, S q → S' q) : CAt S' C H x c := by
  obtain ⟨⟨dx, d, v, sg, e1, e2, e3, e4, k1, k2, k3, k4⟩, us⟩ := h
  exact ⟨⟨dx, d, v, sg, e1, e2, e3, e4, s _ k1, s _ k2, s _ k3, s _ k4⟩, fun r hr => ⟨(us r hr).tp, (us r hr).ls, s _ (us r hr).st, s _ (us r hr).sa⟩⟩
theorem ksOk_srt {ks : List Str} {m : Nat} (h : keysB (ks.map V.str) m = true) : KsOk (srtW ks) m := by
  obtain ⟨h1, h2, h3⟩ := keys_once h
  exact ⟨srtW_nodup.mpr h1, srtW_sorted _, by rw [srtW_len]; omega, fun k hk => h3 k (srtW_mem.mp hk)⟩
theorem val_use : ∀ (us : List Use) (z : Str), z ∉ us.map (·.z) → valV (dictU us) (Sum.inr z) = none
  | [], _, _ => rfl
  | r :: rest, z, h => by
    rw [List.map_cons, List.mem_cons, not_or] at h
    show valV ((Sum.inr r.z, V.ref r.t) :: dictU rest) (Sum.inr z) = none
    rw [valV_neg (fun q => h.1 (Sum.inr.inj q).symm)]
    exact val_use rest z h.2
theorem put_use {us : List Use} {r : Use} (h : r.z ∉ us.map (·.z)) : putK (dictU us) (Sum.inr r.z) (V.ref r.t) = dictU (us ++ [r]) := by
  rw [putK_new _ (val_use us _ h)]
  unfold dictU
  rw [List.map_append]; rfl
theorem UAt.put {S : Addr → Prop} {H H' : Hp} {r : Use} (h : UAt S H r) (s : ∀ q o, H q = some o → (∃ xs, o = .lst xs) ∨ (∃ xs, o = .tup xs) → H' q = some o) : UAt S H' r := ⟨s _ _ h.tp (.inr ⟨_, rfl⟩), s _ _ h.ls (.inl ⟨_, rfl⟩), h.st, h.sa⟩
theorem put_v (d v : V) : putF "_vouchers" v [(("_uses" : Str), d)] = [(("_uses" : Str), d), ("_vouchers", v)] := by
  have e : ¬ (("_uses" : Str) = "_vouchers") := by decide +kernel
  show (if ("_uses" : Str) = "_vouchers" then _ else _) = _
  rw [if_neg e]; rfl
theorem put_n (d v n : V) : putF "_needed" n [(("_uses" : Str), d), ("_vouchers", v)] = [(("_uses" : Str), d), ("_vouchers", v), ("_needed", n)] := by
  have e : ¬ (("_uses" : Str) = "_needed") := by decide +kernel
  have e2 : ¬ (("_vouchers" : Str) = "_needed") := by decide +kernel
  show (if ("_uses" : Str) = "_needed" then _ else _ :: (if ("_vouchers" : Str) = "_needed" then _ else _)) = _
  rw [if_neg e, if_neg e2]; rfl
theorem put_s (d v n s : V) : putF "_signers" s [(("_uses" : Str), d), ("_vouchers", v), ("_needed", n)] = [(("_uses" : Str), d), ("_vouchers", v), ("_needed", n), ("_signers", s)] := by
  have e : ¬ (("_uses" : Str) = "_signers") := by decide +kernel
  have e2 : ¬ (("_vouchers" : Str) = "_signers") := by decide +kernel
  have e3 : ¬ (("_needed" : Str) = "_signers") := by decide +kernel
  show (if ("_uses" : Str) = "_signers" then _ else _ :: (if ("_vouchers" : Str) = "_signers" then _ else _ :: (if ("_needed" : Str) = "_signers" then _ else _))) = _
  rw [if_neg e, if_neg e2, if_neg e3]; rfl
/-- what is given to Contents, all of it right -/
structure Right (K : PySem.W.Frag) (H : Hp) (r v n s : V) (rows : List Row) (lv : KL) (ne : Int) (so : Option KL) : Prop where
  r_ : ∃ d, r = .ref d ∧ H d = some (.dK (dictOf rows)) ∧ ∀ q ∈ rows, RowOk K d H q
  n1 : 1 ≤ rows.length
  n3 : rows.length ≤ 3
  nd : (rows.map (·.z)).Nodup
  rb : rows.all rowB = true
  v_ : v = .ref lv.a ∧ KLOk K H lv ∧ keysB (lv.ks.map V.str) 4 = true
  n_ : n = .int ne ∧ 0 ≤ ne ∧ ne ≤ 4
  s_ : (s = .non ∧ so = none) ∨ ∃ l, s = .ref l.a ∧ so = some l ∧ KLOk K H l ∧ keysB (l.ks.map V.str) 4 = true
def sgOf (lv : KL) (so : Option KL) : List Str := (so.getD lv).ks
/-- .. and some of it wrong -/
def Wrongly (P : Program) (w : World) (K : PySem.W.Frag) (H : Hp) (r v n s : V) (y : V) : Prop := ∃ f1 f2 f3 f4, RolesIs P w K H r f1 ∧ KeysIs K H v 4 f2 ∧ NeedIs K H n f3 ∧ ((s = .non ∧ f4 = true) ∨ (s ≠ .non ∧ KeysIs K H s 4 f4)) ∧ wrongV f1 f2 f3 f4 = y ∧ y ≠ .non
def spCInit (P : Program) (w : World) (K : PySem.W.Frag) (C CI : Addr) : Sp := fun vs H Q E => ∃ x dx r v n s H0, vs = [.ref x, r, v, n, s] ∧ H x = some (.ins C dx []) ∧ Same H0 H ∧ H0 x = none ∧
  ((∃ rows lv ne so, Right K H0 r v n s rows lv ne so ∧ ∀ H' c, CAt (fun q => H0 q = none) C H' x c → Made rows lv.ks ne (sgOf lv so) c → CtOk c → Same H0 H' → Q .non H') ∨
   (∃ y, Wrongly P w K H0 r v n s y ∧ ∀ d H', H0 d = none → Same H0 H' → H' d = some (.xd [(("part" : Str), y)]) → E (.ref CI) (some d) H'))
section
variable {P : Program} {w : World} {K : PySem.W.Frag} {mg : Str → Option Value} {base : Heap} {C CI : Addr}
theorem sc_InvalidContents_init : FnScope ["self", "part"] ["self", "part"] (defScope s_InvalidContents_init) := ⟨rfl, rfl, rfl, by decide +kernel, rfl, by decide +kernel, by decide +kernel⟩
theorem ok_cxinit (D : ExnQ K mg "InvalidContents" CI "InvalidContents.__init__" s_InvalidContents_init "part") : ExnB P w K mg base 1 "InvalidContents" CI (spX CI "part") := by
  obtain ⟨fI, fd, F, a, ty⟩ := D.ini
  refine ⟨D.mg_, D.ovr, fI, fd, _, F.ok sc_InvalidContents_init (fun vs H Q E h => ?_) (fun cdv A outer s H vs Q E hr h => ?_), a, ty, F.binds (fun _ _ _ _ _ _ us hl => match us, hl with | [_, _], _ => rfl)⟩
  · obtain ⟨a, y, rfl, _⟩ := h; rfl
  · obtain ⟨a, y, rfl, ha, k⟩ := h
    exact ⟨_, (pss_one (ps_keep (pv 0) (pv 1))), _, rfl, _, rfl, a, CI, rfl, D.ovr, D.no, ha, fun dx n e => k dx n e⟩
theorem sc_Contents_init : FnScope ["self", "roles", "vouchers", "needed", "signers", "part", "role", "accepted", "used"] ["self", "roles", "vouchers", "needed", "signers"] (defScope s_Contents_init) := ⟨rfl, rfl, rfl, by decide +kernel, rfl, by decide +kernel, by decide +kernel⟩
theorem body_cinit (T : Txt K mg) (J : CTx K mg C) (G_wrong_part : Cal P w K mg base CX0 5 "_wrong_part" (spWrong P w K)) (G_in_order : Cal P w K mg base CX0 1 "_in_order" (spOrder K)) (G_InvalidContents : ExnB P w K mg base 1 "InvalidContents" CI (spX CI "part"))
    (f : Addr) : BodyX P w K mg base ["self", "roles", "vouchers", "needed", "signers", "part", "role", "accepted", "used"] "Contents.__init__" s_Contents_init f 6 (spCInit P w K C CI) := by
  intro cdv A outer s H vs Q E hr h
  obtain ⟨x, dx, r, v, n, sg, H0, rfl, hx, s0, n0, h⟩ := h
  have hu1 : (A.deeper (envOfC "Contents.__init__" (defScope s_Contents_init) s.heap.objs.size f cdv)).units + 1 < cLine := Nat.lt_of_le_of_lt (Nat.add_le_add_left (by decide : 1 ≤ 64) _) hr.units
  refine ⟨_, (pss_cons (ps_set (i := 5) sc_Contents_init.nd rfl (Or.inl rfl) (pe_c G_wrong_part hr (by decide) rfl (pa_cons (pv 1) (pa_cons (pv 2) (pa_cons (pv 3) (pa_cons (pv 4) pa_nil))))))
      (pss_cons (ps_if (pt_cmpR op_notN (pv 5) pe_non (nomark _)) (pss_one (ps_raise rfl (takes_of rfl rfl rfl rfl) (pmk_b G_InvalidContents hr (by decide) rfl (pa_cons (pv 5) pa_nil)))) pss_nil)
      (pss_cons (ps_fld (pv 0) pe_dnewK rfl)
      (pss_cons (ps_for (passes_of rfl) rfl (pi_list (pe_c G_in_order hr (by decide) rfl (pa_cons (pe_callTy (call_list_dK rfl) (by rfl) T.b_list (by decide +kernel) (pa_cons (pv 1) pa_nil)) pa_nil))) (pg_name (i := 6) sc_Contents_init.nd rfl (Or.inl rfl)) (pss_cons (ps_asg (pe_dget hu1 (pv 1) (pv 6) (fun _ _ => rfl)) (pg_tup rfl (pgs_cons (pg_name (i := 7) sc_Contents_init.nd rfl (Or.inl rfl)) (pgs_cons (pg_name (i := 8) sc_Contents_init.nd rfl (Or.inl rfl)) pgs_nil))))
      (pss_one (ps_dput hu1 (pe_fld (pv 0) rfl) (pv 6) (pe_tup (pa_cons (pe_c G_in_order hr (by decide) rfl (pa_cons (pv 7) pa_nil)) (pa_cons (pv 8) pa_nil))) rfl))))
      (pss_cons (ps_fld (pv 0) (pe_c G_in_order hr (by decide) rfl (pa_cons (pv 2) pa_nil)) rfl)
      (pss_cons (ps_fld (pv 0) (pv 3) rfl)
      (pss_one (ps_fld (pv 0) (pe_c G_in_order hr (by decide) rfl (pa_cons (pe_ifExp (pt_cmpR op_isN (pv 4) pe_non (nomark _)) (pv 2) (pv 4)) pa_nil)) rfl)))))))), ?_⟩
  have npos : (0 : Nat) < 1000 := by decide
  have one : (1 : Nat) < 1000 := by decide
  have two : (2 : Nat) < 1000 := by decide
  have three : (3 : Nat) < 1000 := by decide
  rcases h with ⟨rows, lv, ne, so, R, q⟩ | ⟨y, ⟨f1, f2, f3, f4, i1, i2, i3, i4, ey, ny⟩, k⟩
  · obtain ⟨d0, rfl, ed0, ok⟩ := R.r_
    obtain ⟨rfl, lvk, lvb⟩ := R.v_
    obtain ⟨rfl, ne0, ne4⟩ := R.n_
    have i1 : RolesIs P w K H0 (.ref d0) true := R.rb ▸ roles_is (P := P) (w := w) ed0 R.n1 R.n3 R.nd ok
    have i2 : KeysIs K H0 (.ref lv.a) 4 true := lvb ▸ lvk.is 4
    have i4 : (sg = .non ∧ true = true) ∨ (sg ≠ .non ∧ KeysIs K H0 sg 4 true) := by
      rcases R.s_ with ⟨rfl, _⟩ | ⟨l, rfl, _, lk, lb⟩
      · exact .inl ⟨rfl, rfl⟩
      · exact .inr ⟨(fun z => nomatch z), lb ▸ lk.is 4⟩
    refine ⟨_, rfl, _, rfl, _, rfl, _, rfl, .ref d0, .ref lv.a, .int ne, sg, true, true, true, true, rfl, fun H' Q s q => i1 H' Q (s0.trans s) q, fun H' Q s q => i2 H' Q (s0.trans s) q, needs_is ne0 ne4, i4.imp id fun z => ⟨z.1, fun H' Q s q => z.2 H' Q (s0.trans s) q⟩, fun H1 s1 => ?_⟩
    refine ⟨_, rfl, rfl, _, rfl, iteF ?_⟩
    have s01 := s0.trans s1
    refine fun d nd => ⟨_, rfl, x, C, dx, [], rfl, by rw [upd_ne (ne_of_none (s1 _ _ hx) nd)]; exact s1 _ _ hx, J.cl, J.nu, npos, ?_⟩
    rw [show putF "_uses" (V.ref d) [] = [(("_uses" : Str), V.ref d)] from rfl]
    have nx1 : x ≠ d := ne_of_none (s1 _ _ hx) nd
    have nd0 : H0 d = none := s01.free nd
    have sA : Same H0 (upd (upd H1 d (.dK [])) x (.ins C dx [(("_uses" : Str), V.ref d)])) := same_mut (same_new' s01 nd) n0
    have xA : upd (upd H1 d (.dK [])) x (.ins C dx [(("_uses" : Str), V.ref d)]) x = some (.ins C dx [(("_uses" : Str), V.ref d)]) := upd_same
    have dA : upd (upd H1 d (.dK [])) x (.ins C dx [(("_uses" : Str), V.ref d)]) d = some (.dK []) := by rw [upd_ne nx1.symm, upd_same]
    generalize upd (upd H1 d (.dK [])) x (.ins C dx [(("_uses" : Str), V.ref d)]) = HA at *
    have mz : (dictOf rows).map (fun kv => kV kv.1) = (rows.map (·.z)).map V.str := by unfold dictOf; rw [List.map_map, List.map_map]; rfl
    refine ⟨_, rfl, d0, dictOf rows, rfl, sA _ _ ed0, fun q9 nq => ⟨q9, true, rows.map (·.z), rfl, ?_, by rw [List.length_map]; exact Nat.le_trans R.n3 (by decide), fun ys p H2 pm sy np s2 ep => ⟨p, rfl, ⟨_, SqL.of ep⟩, ?_⟩⟩⟩
    · rw [mz]; exact SqL.of upd_same
    have pl : (ys.length : Nat) ≤ 3 := by
      have z := pm.length_eq
      have z2 := onceW_len (rows.map (·.z))
      have z3 := R.n3
      rw [List.length_map] at z2
      omega
    have pm2 : ys.Perm (rows.map (·.z)) := pm.trans (once_perm R.nd)
    have ynd : ys.Nodup := pm2.nodup_iff.mpr R.nd
    have sB : Same H0 H2 := (same_new' sA nq).trans s2
    have xB : H2 x = some (.ins C dx [(("_uses" : Str), V.ref d)]) := s2 _ _ (by rw [upd_ne (ne_of_none xA nq)]; exact xA)
    have dB : H2 d = some (.dK []) := s2 _ _ (by rw [upd_ne (ne_of_none dA nq)]; exact dA)
    have np0 : H0 p = none := (same_new' sA nq).free np
    refine for_list (K := K) (a := p) (xs := ys.map V.str) (fun i sg' Hi => ∃ v6 v7 v8 : Option V, sg' = [some (.ref x), some (.ref d0), some (.ref lv.a), some (.int ne), some sg, some .non, v6, v7, v8] ∧ ∃ us : List Use, us.map (·.z) = ys.take i ∧ Hi x = some (.ins C dx [(("_uses" : Str), V.ref d)]) ∧ Hi d = some (.dK (dictU us)) ∧ Hi p = some (.lst (ys.map V.str)) ∧ Same H0 Hi ∧ ∀ r ∈ us, UAt (fun q => H0 q = none) Hi r ∧ ∃ q ∈ rows, q.z = r.z ∧ q.u = r.u ∧ r.ks = srtW q.ks)
      ⟨_, _, _, rfl, [], rfl, xB, dB, ep, sB, fun _ h => nomatch h⟩ (fun i sg' Hi _ ⟨_, _, _, _, us, _, _, _, e, _⟩ => SqL.of e) ?_ ?_
    · rintro i v sg' Hi hv ⟨v6, v7, v8, rfl, us, uz, xi, di, pi, si, ui⟩
      obtain ⟨z, ez, rfl⟩ : ∃ z, ys[i]? = some z ∧ v = .str z := by
        rw [List.getElem?_map] at hv
        cases c : ys[i]? with
        | none => rw [c] at hv; cases hv
        | some z => rw [c] at hv; exact ⟨z, rfl, (Option.some.inj hv).symm⟩
      have zin : z ∈ rows.map (·.z) := pm2.mem_iff.mp (List.mem_of_getElem? ez)
      obtain ⟨rq, rin, rfl⟩ := List.mem_map.mp zin
      have rok := ok rq rin
      have rB := List.all_eq_true.mp R.rb rq rin
      have kB : keysB (rq.ks.map V.str) 8 = true := by unfold rowB at rB; exact (Bool.and_eq_true_iff.mp (Bool.and_eq_true_iff.mp rB).2).1
      have k1 := keys_once kB
      have tk : ys.take (i + 1) = ys.take i ++ [rq.z] := by rw [List.take_succ, ez]; rfl
      have ztk : rq.z ∉ us.map (·.z) := by
        rw [uz]
        intro hm
        have nd2 : (ys.take (i + 1)).Nodup := ynd.sublist (List.take_sublist _ _)
        rw [tk, List.nodup_append] at nd2
        exact nd2.2.2 _ hm _ (List.mem_singleton.mpr rfl) rfl
      have ul : us.length ≤ 3 := by
        have z1 := congrArg List.length uz
        rw [List.length_map, List.length_take] at z1
        omega
      refine ⟨_, rfl, _, rfl, d0, .ref rq.t, rfl, by rw [← val_row rows rq R.nd rin]; exact DGet.k (k := Sum.inr rq.z) (si _ _ ed0), rq.t, _, rfl, SqT.of (si _ _ rok.at_), rfl, _, _, rfl, _, _, rfl, rfl, ?_⟩
      refine ⟨_, rfl, rq.a, rq.b, rq.ks, rfl, SqE.keep rok.sq si, by have := k1.2.1; omega, fun y2 p2 H3 pm3 so3 np2 s3 ep2 => ⟨_, rfl, by show 2 ≤ sizeLine; decide, fun t nt => ?_⟩⟩
      have s3' : Same Hi (upd H3 t (.tup [.ref p2, .str rq.u])) := same_new' s3 nt
      have xi2 := s3' _ _ xi
      have di2 := s3' _ _ di
      have pi2 := s3' _ _ pi
      have si2 := si.trans s3'
      have np3 : H0 p2 = none := si.free np2
      have nt3 : H0 t = none := si.free (s3.free nt)
      have ui2 : ∀ r ∈ us, UAt (fun q => H0 q = none) (upd H3 t (.tup [.ref p2, .str rq.u])) r := fun r hr => (ui r hr).1.put fun q o e _ => s3' _ _ e
      have et2 : upd H3 t (.tup [.ref p2, .str rq.u]) t = some (.tup [.ref p2, .str rq.u]) := upd_same
      have ep3 : upd H3 t (.tup [.ref p2, .str rq.u]) p2 = some (.lst (y2.map V.str)) := by rw [upd_ne (ne_of_none ep2 nt)]; exact ep2
      refine ⟨_, rfl, x, C, dx, _, _, rfl, xi2, J.cl, J.nu, rfl, _, rfl, d, _, rfl, DPut.k (k := Sum.inr rq.z) di2 (by unfold dictU; rw [List.length_map, sizeLine_eq]; omega), ?_⟩
      generalize upd H3 t (.tup [.ref p2, .str rq.u]) = H4 at *
      have eq : putK (dictU us) (Sum.inr rq.z) (V.ref t) = dictU (us ++ [⟨rq.z, t, p2, y2, rq.u⟩]) := put_use (r := ⟨rq.z, t, p2, y2, rq.u⟩) ztk
      rw [eq]
      have dx2 : x ≠ d := ne_of xi2 di2 (by intro z; cases z)
      have keepU : ∀ r, UAt (fun q => H0 q = none) H4 r → UAt (fun q => H0 q = none) (upd H4 d (.dK (dictU (us ++ [⟨rq.z, t, p2, y2, rq.u⟩])))) r := fun r h => h.put fun q o e k => by
        rw [upd_ne (ne_of e di2 (by rcases k with ⟨_, rfl⟩ | ⟨_, rfl⟩ <;> (intro z; cases z)))]; exact e
      refine ⟨_, _, _, rfl, us ++ [⟨rq.z, t, p2, y2, rq.u⟩], by rw [List.map_append, uz, tk]; rfl, by rw [upd_ne dx2]; exact xi2, upd_same, by rw [upd_ne (ne_of pi2 di2 (by intro z; cases z))]; exact pi2, same_mut si2 nd0, fun r hr => ?_⟩
      rcases List.mem_append.mp hr with hr | hr
      · exact ⟨keepU r (ui2 r hr), (ui r hr).2⟩
      · obtain rfl := List.mem_singleton.mp hr
        exact ⟨keepU _ ⟨et2, ep3, nt3, np3⟩, rq, rin, rfl, rfl, srt_eq so3 (pm3.trans (once_perm k1.1))⟩
    · rintro sg' Hi ⟨v6, v7, v8, rfl, us, uz, xi, di, pi, si, ui⟩
      rw [List.length_map, List.take_length] at uz
      have nl0 : ∀ {l : KL} {m : Int}, keysB (l.ks.map V.str) m = true → m ≤ 4 → l.ks.length ≤ 60 := fun h hm => by have := (keys_once h).2.1; omega
      -- what stands so far stays
      have go : ∀ H', Same H0 H' → (∀ q o, Hi q = some o → q ≠ x → H' q = some o) → H' d = some (.dK (dictU us)) ∧ ∀ r ∈ us, UAt (fun q => H0 q = none) H' r := fun H' _ k =>
        ⟨k _ _ di (ne_of di xi (by intro z; cases z)), fun r hr => (ui r hr).1.put fun q o e j => k _ _ e (ne_of e xi (by rcases j with ⟨_, rfl⟩ | ⟨_, rfl⟩ <;> (intro z; cases z)))⟩
      refine ⟨_, rfl, lv.a, lv.b, lv.ks, rfl, SqE.keep lvk.sq si, nl0 lvb (by decide), fun vs2 pv H5 pmv sov npv s5 epv => ⟨_, rfl, x, C, dx, _, rfl, s5 _ _ xi, J.cl, J.nv, one, ?_⟩⟩
      rw [put_v]
      have npv0 : H0 pv = none := si.free npv
      have s05 := si.trans s5
      have x6 : upd H5 x (.ins C dx [(("_uses" : Str), V.ref d), ("_vouchers", .ref pv)]) x = some (.ins C dx [(("_uses" : Str), V.ref d), ("_vouchers", .ref pv)]) := upd_same
      refine ⟨_, rfl, _, rfl, x, C, dx, _, rfl, x6, J.cl, J.nn, two, ?_⟩
      rw [put_n, upd_upd]
      have x7 : upd H5 x (.ins C dx [(("_uses" : Str), V.ref d), ("_vouchers", .ref pv), ("_needed", .int ne)]) x = some (.ins C dx [(("_uses" : Str), V.ref d), ("_vouchers", .ref pv), ("_needed", .int ne)]) := upd_same
      have s07 : Same H0 (upd H5 x (.ins C dx [(("_uses" : Str), V.ref d), ("_vouchers", .ref pv), ("_needed", .int ne)])) := same_mut s05 n0
      have k7 : ∀ q o, H5 q = some o → q ≠ x → upd H5 x (.ins C dx [(("_uses" : Str), V.ref d), ("_vouchers", .ref pv), ("_needed", .int ne)]) q = some o := fun q o e n => by rw [upd_ne n]; exact e
      generalize upd H5 x (.ins C dx [(("_uses" : Str), V.ref d), ("_vouchers", .ref pv), ("_needed", .int ne)]) = H7 at *
      have pvx : pv ≠ x := fun e => by rw [e, xi] at npv; cases npv
      -- the end, over the signers
      have fin : ∀ (sk : List Str) (ys : List Str) (ps : Addr) (H8 : Hp), keysB (sk.map V.str) 4 = true → sk = sgOf lv so → ys.Perm (onceW sk) → sortedS ys = true → H7 ps = none → Same H7 H8 → H8 ps = some (.lst (ys.map V.str)) →
          Q .non (upd H8 x (.ins C dx [(("_uses" : Str), V.ref d), ("_vouchers", .ref pv), ("_needed", .int ne), ("_signers", .ref ps)])) := by
        intro sk ys2 ps H8 kb es pms sos nps s8 eps
        have k8 : ∀ q o, Hi q = some o → q ≠ x → upd H8 x (.ins C dx [(("_uses" : Str), V.ref d), ("_vouchers", .ref pv), ("_needed", .int ne), ("_signers", .ref ps)]) q = some o := fun q o e n => by rw [upd_ne n]; exact s8 _ _ (k7 _ _ (s5 _ _ e) n)
        have psx : ps ≠ x := fun e => by rw [e, x7] at nps; cases nps
        have s08 := same_mut (o := .ins C dx [(("_uses" : Str), V.ref d), ("_vouchers", .ref pv), ("_needed", .int ne), ("_signers", .ref ps)]) (s07.trans s8) n0
        obtain ⟨g1, g2⟩ := go _ s08 k8
        have oV := keys_once lvb
        have oS := keys_once kb
        have evs : vs2 = srtW lv.ks := srt_eq sov (pmv.trans (once_perm oV.1))
        have ess : ys2 = srtW sk := srt_eq sos (pms.trans (once_perm oS.1))
        have ezs : us.map (·.z) = srtW (rows.map (·.z)) := uz.trans (srt_eq sy pm2)
        have ul : us.length = rows.length := by
          have z := congrArg List.length ezs
          rw [List.length_map, srtW_len, List.length_map] at z
          exact z
        refine q _ ⟨us, vs2, ne, ys2⟩ ⟨⟨dx, d, pv, ps, upd_same, g1, ?_, ?_, n0, nd0, npv0, s07.free nps⟩, g2⟩ ⟨ezs, fun r hr => (ui r hr).2, evs, rfl, ess.trans (by rw [es])⟩ ?_ s08
        · rw [upd_ne pvx]; exact s8 _ _ (k7 _ _ epv pvx)
        · rw [upd_ne psx]; exact eps
        · refine ⟨by show 1 ≤ us.length; rw [ul]; exact R.n1, by show us.length ≤ 3; rw [ul]; exact R.n3, ?_, ?_, ?_, evs ▸ ksOk_srt lvb, ess ▸ ksOk_srt kb, ne0, ne4⟩
          · show (us.map (·.z)).Nodup
            rw [ezs]; exact srtW_nodup.mpr R.nd
          · show sortedS (us.map (·.z)) = true
            rw [ezs]; exact srtW_sorted _
          · intro r hr
            obtain ⟨_, rq, rin, e1, e2, e3⟩ := ui r hr
            have rB := List.all_eq_true.mp R.rb rq rin
            unfold rowB at rB
            obtain ⟨b1, b2⟩ := Bool.and_eq_true_iff.mp rB
            obtain ⟨b3, b4⟩ := Bool.and_eq_true_iff.mp b2
            exact ⟨e3 ▸ ksOk_srt b3, e1 ▸ b1, e2 ▸ b4⟩
      rcases R.s_ with ⟨rfl, rfl⟩ | ⟨l, rfl, rfl, lk, lb⟩
      · refine ⟨_, rfl, rfl, _, rfl, iteT ⟨_, rfl, lv.a, lv.b, lv.ks, rfl, SqE.keep lvk.sq s07, nl0 lvb (by decide), fun ys2 ps H8 pms sos nps s8 eps => ⟨_, rfl, x, C, dx, _, rfl, s8 _ _ x7, J.cl, J.ns, three, ?_⟩⟩⟩
        rw [put_s]
        exact fin lv.ks ys2 ps H8 lvb rfl pms sos nps s8 eps
      · refine ⟨_, rfl, rfl, _, rfl, iteF ⟨_, rfl, l.a, l.b, l.ks, rfl, SqE.keep lk.sq s07, nl0 lb (by decide), fun ys2 ps H8 pms sos nps s8 eps => ⟨_, rfl, x, C, dx, _, rfl, s8 _ _ x7, J.cl, J.ns, three, ?_⟩⟩⟩
        rw [put_s]
        exact fin l.ks ys2 ps H8 lb rfl pms sos nps s8 eps
  · refine ⟨_, rfl, _, rfl, _, rfl, _, rfl, r, v, n, sg, f1, f2, f3, f4, rfl, fun H' Q s q => i1 H' Q (s0.trans s) q, fun H' Q s q => i2 H' Q (s0.trans s) q, i3.keep s0, i4.imp id fun z => ⟨z.1, fun H' Q s q => z.2 H' Q (s0.trans s) q⟩, fun H1 s1 => ?_⟩
    have s01 := s0.trans s1
    refine ⟨_, rfl, rfl, _, rfl, ?_⟩
    rw [ey, decide_eq_false ny]
    exact iteT ⟨_, rfl, x_read fun d nd => k d _ (s01.free nd) (same_new' s01 nd) upd_same⟩
end
end K09C
namespace K09C
open PySem PySem.Spec PyProof.Rows L2 Jg
local macro_rules | `(tactic| walk_at "rd1") => `(tactic| (first
  | refine ⟨_, rfl, ?_⟩
  | refine ⟨_, _, rfl, rfl, ?_⟩
  | refine ⟨_, _, rfl, ?_⟩
  | refine ⟨rfl, ?_⟩
  | (refine ⟨show (0 : Int) < _ by omega, ?_⟩)
  | (refine ⟨Or.inl ⟨by omega, by omega⟩, ?_⟩)
  | (refine ⟨Or.inr ⟨by omega, by omega⟩, ?_⟩)
  | (refine ⟨(⟨by decide, by decide, by decide⟩ : CPow _ _), ?_⟩)
  | refine Or.inl ⟨_, rfl, ?_⟩
  | refine Or.inr ⟨_, rfl, ?_⟩
  | fail "rd"))
local macro_rules | `(tactic| walk_at "rd") => `(tactic| repeat' walk_at "rd1")
theorem seq_upd {K : PySem.W.Frag} {H : Hp} {l p : Addr} {xs : List V} {o : HO} (h : SqL K H l xs) (n : l ≠ p) : SqL K (upd H p o) l xs := by
  rcases h with (h | ⟨z, h⟩) | h
  · exact .inl (.inl (by rw [upd_ne n]; exact h))
  · exact .inl (.inr ⟨z, by rw [upd_ne n]; exact h⟩)
  · exact .inr h
def spStream (K : PySem.W.Frag) : Sp := fun vs H Q _ => ∃ (a : Addr) (ns : List Int) (k : Nat), vs = [.ref a, .int k] ∧ SqL K H a (ns.map V.int) ∧ k ≤ 1000 ∧
  ∀ p x y, H p = none → 0 ≤ x → Q (.ref p) (upd H p (.lst [.int x, .int y]))
def spDraw : Sp := fun vs H Q _ => ∃ p a b n, vs = [.ref p, .int n] ∧ H p = some (.lst [.int a, .int b]) ∧ 0 ≤ a ∧ 0 < n ∧ n.natAbs < 2 ^ 300 ∧
  ∀ v a' b', 0 ≤ v → v < n → 0 ≤ a' → Q (.int v) (upd H p (.lst [.int a', .int b']))
/-- from a list, or a sign of a text -/
def spChoose (K : PySem.W.Frag) : Sp := fun vs H Q _ => ∃ p y a b, vs = [.ref p, y] ∧ H p = some (.lst [.int a, .int b]) ∧ 0 ≤ a ∧
  ((∃ l xs, y = .ref l ∧ SqL K H l xs ∧ l ≠ p ∧ 0 < xs.length ∧ xs.length < 1000 ∧ ∀ (i : Nat) (v : V) (a' b' : Int), xs[i]? = some v → 0 ≤ a' → Q v (upd H p (.lst [.int a', .int b']))) ∨
   (∃ z : Str, y = .str z ∧ 0 < z.length ∧ z.length < 1000 ∧ ∀ (c : Nat) (a' b' : Int), c ∈ z.cps.toList → 0 ≤ a' → Q (.str ⟨#[c]⟩) (upd H p (.lst [.int a', .int b']))))
theorem i1000 {n : Int} (h0 : 0 ≤ n) (h : n < 1000) : n.natAbs < 2 ^ 300 := by
  have : n.natAbs < 1024 := by omega
  exact Nat.lt_of_lt_of_le this (by decide +kernel)
theorem SameB.refl (p : Addr) (H : Hp) : SameB p H H := fun _ _ e _ => e
theorem SameB.new {p l : Addr} {H H1 : Hp} {o : HO} (a : SameB p H H1) (h : H1 l = none) : SameB p H (upd H1 l o) := fun q u e n => by
  have z := a q u e n
  rw [upd_ne (ne_of_none z h)]
  exact z
theorem SameB.mut {p : Addr} {H H1 : Hp} {o : HO} (a : SameB p H H1) : SameB p H (upd H1 p o) := fun q u e n => by
  rw [upd_ne n]
  exact a q u e n
theorem ne_dec {x y : Int} : decide (V.int x = V.int y) = decide (x = y) := by
  by_cases c : x = y
  · rw [c, decide_eq_true rfl, decide_eq_true rfl]
  · rw [decide_eq_false c, decide_eq_false fun z => c (V.int.inj z)]
theorem p30 : (10 : Int) ^ (30 : Int).toNat = 1000000000000000000000000000000 := by decide +kernel
theorem SameB.free {p l : Addr} {H H' : Hp} (s : SameB p H H') (n : H' l = none) (np : l ≠ p) : H l = none := by
  cases e : H l with
  | none => rfl
  | some o =>
    have z := s l o e np
    rw [n] at z; cases z
theorem az_app {a b : Str} (h1 : AZ a) (h2 : AZ b) : AZ (a ++ b) := fun c h => by
  rw [Str.cps_append, Array.toList_append, List.mem_append] at h
  exact h.elim (h1 c) (h2 c)
theorem az_one {c : Nat} (h : 97 ≤ c ∧ c ≤ 122) : AZ ⟨#[c]⟩ := fun d hd => by
  have e : d = c := by simpa using hd
  rw [e]; exact h
def letters : Str := "abcdefghijklmnopqrstuvwxyz"
theorem letters_az : AZ letters := by
  have h : ∀ c ∈ letters.cps.toList, 97 ≤ c ∧ c ≤ 122 := by decide +kernel
  exact h
theorem letters_len : letters.length = 26 := by decide +kernel
/-- single signs, joined -/
def Ones (ys : List Str) : Prop := ∀ y ∈ ys, AZ y ∧ y.length = 1
theorem join_az : ∀ ys : List Str, Ones ys → AZ (Str.join Str.empty ys) ∧ (Str.join Str.empty ys).length = ys.length
  | [], _ => ⟨(fun c h => by cases h), rfl⟩
  | [x], h => ⟨(h x (by simp)).1, (h x (by simp)).2⟩
  | x :: y :: r, h => by
    obtain ⟨h1, h2⟩ := join_az (y :: r) fun z hz => h z (List.mem_cons_of_mem _ hz)
    have e : Str.join Str.empty (x :: y :: r) = x ++ Str.join Str.empty (y :: r) := by
      show x ++ Str.empty ++ Str.join Str.empty (y :: r) = _
      rw [Str.append_empty]
    rw [e]
    refine ⟨az_app (h x (by simp)).1 h1, ?_⟩
    rw [Str.length_append, h2, (h x (by simp)).2, List.length_cons, List.length_cons, List.length_cons]
    omega
theorem ones_sum : ∀ ys : List Str, Ones ys → (ys.map (·.length)).sum = ys.length
  | [], _ => rfl
  | x :: r, h => by
    rw [List.map_cons, List.sum_cons, ones_sum r fun z hz => h z (List.mem_cons_of_mem _ hz), (h x (by simp)).2, List.length_cons]
    omega
/-- the letter at a step -/
def stepC (f st : Int) (i : Nat) : Nat := 97 + ((f + st * (0 + (i : Int))) % 26).toNat
theorem stepC_inj {f st : Int} (h : st = 1 ∨ st = 3 ∨ st = 5 ∨ st = 7 ∨ st = 9 ∨ st = 11 ∨ st = 15 ∨ st = 17 ∨ st = 19 ∨ st = 21 ∨ st = 23 ∨ st = 25) {i j : Nat} (hi : i < 26) (hj : j < 26) (e : stepC f st i = stepC f st j) : i = j := by
  unfold stepC at e
  rcases h with rfl | rfl | rfl | rfl | rfl | rfl | rfl | rfl | rfl | rfl | rfl | rfl <;> omega
theorem mid_inj {a b : Str} {c d : Nat} (e : a ++ ⟨#[c]⟩ ++ b = a ++ ⟨#[d]⟩ ++ b) : c = d := by
  have z := congrArg (fun s : Str => s.cps.toList) e
  simp only [Str.cps_append, Array.toList_append] at z
  have z2 := List.append_cancel_right z
  have z3 := List.append_cancel_left z2
  simpa using z3
theorem nodup_steps {f st : Int} {hd tl : Str} (h : st = 1 ∨ st = 3 ∨ st = 5 ∨ st = 7 ∨ st = 9 ∨ st = 11 ∨ st = 15 ∨ st = 17 ∨ st = 19 ∨ st = 21 ∨ st = 23 ∨ st = 25) {n : Nat} (hn : n ≤ 26) : ((List.range n).map fun i => hd ++ (⟨#[stepC f st i]⟩ : Str) ++ tl).Nodup := by
  unfold List.Nodup
  rw [List.pairwise_map]
  refine List.Pairwise.imp_of_mem (fun {a b} ha hb lt e => ?_) List.pairwise_lt_range
  have z := stepC_inj h (by have := List.mem_range.mp ha; omega) (by have := List.mem_range.mp hb; omega) (mid_inj e)
  omega
def spWords : Sp := fun vs H Q _ => ∃ p n, vs = [.ref p, .int n] ∧ 0 ≤ n ∧ n ≤ 26 ∧ StA H p ∧ ∀ (l : Addr) (ws : List Str) (H' : Hp), H l = none → l ≠ p → ws.length = n.toNat → (∀ z ∈ ws, Wd z) → ws.Nodup → H' l = some (.lst (ws.map V.str)) → StA H' p → SameB p H H' → Q (.ref l) H'
section
variable {P : Program} {w : World} {K : PySem.W.Frag} {mg : Str → Option Value} {base : Heap}
theorem sc_law_stream : FnScope ["script", "k", "cell", "size", "mixed"] ["script", "k"] (defScope s_law_stream) := ⟨rfl, rfl, rfl, by decide +kernel, rfl, by decide +kernel, by decide +kernel⟩
theorem ok_stream (D : DefK K mg "_law_stream" s_law_stream) (T : Txt K mg) : Cal P w K mg base CX0 1 "_law_stream" (spStream K) := by
  refine D.cal sc_law_stream (fun _ _ _ _ _ _ us hl => match us, hl with | [_, _], _ => rfl) (fun vs H Q E h => ?_) fun f cdv A outer s H vs Q E hr h => ?_
  · obtain ⟨a, ns, k, rfl, _⟩ := h; rfl
  · obtain ⟨a, ns, k, rfl, hS, hk, q⟩ := h
    refine ⟨_, (pss_cons (ps_set (i := 2) sc_law_stream.nd rfl (Or.inl rfl) pe_int)
      (pss_cons (ps_if (pt_cmpR op_lt (pv 1) (pe_callB call_len_seq (by rfl) T.b_len (by decide +kernel) (pa_cons (pv 0) pa_nil)) (nomark _)) (pss_one (ps_set (i := 2) sc_law_stream.nd rfl (Or.inl rfl) (pe_ix (r := rIxL K) ix_list (pv 0) (pv 1) (fun _ _ => rfl)))) pss_nil)
      (pss_cons (ps_set (i := 3) sc_law_stream.nd rfl (Or.inl rfl) (pe_callB (call_max2 rfl) (by rfl) T.b_max (by decide +kernel) (pa_cons (pv 2) (pa_cons (pe_op op_sub (pe_un un_neg pe_int) (pv 2)) pa_nil))))
      (pss_cons (ps_set (i := 4) sc_law_stream.nd rfl (Or.inl rfl) (pe_op op_mod (pe_op op_mul (pe_op op_add (pe_op op_add (pe_op op_add (pe_op op_mod (pv 3) pe_int) (pe_op op_mul (pe_op op_mul pe_int (pv 1)) (pv 1))) (pe_op op_mul pe_int (pv 1))) pe_int) pe_int) pe_int))
      (pss_one (ps_ret (pe_lst (pa_cons (pe_op op_mul (pv 3) (pe_callTy call_int1 (by rfl) T.b_int (by decide +kernel) (pa_cons (pe_cmpR op_ge (pv 3) (pe_op op_pow pe_int pe_int) (nomark _)) pa_nil))) (pa_cons (pv 4) pa_nil))))))))), ?_⟩
    have kb : -(2 ^ 64 : Int) < (k : Int) ∧ (k : Int) < 2 ^ 64 := by omega
    refine ⟨_, rfl, _, rfl, a, _, rfl, .inl hS, _, _, rfl, rfl, _, rfl, ?_⟩
    rw [List.length_map]
    by_cases c : (k : Int) < (ns.length : Int)
    · rw [decide_eq_true c]
      have at_ : (ns.map V.int)[k]? = some (V.int (ns[k]'(by omega))) := by rw [List.getElem?_map, List.getElem?_eq_getElem (by omega)]; rfl
      refine iteT ⟨_, rfl, _, rfl, a, _, _, _, rfl, rfl, hS, atI_nat at_, ?_⟩
      walk_at "rd"
      exact ⟨by show 2 ≤ sizeLine; decide, fun p hp => q p _ _ hp (Int.mul_nonneg (by split <;> omega) (by split <;> omega))⟩
    · rw [decide_eq_false c]
      refine iteF ?_
      walk_at "rd"
      exact ⟨by show 2 ≤ sizeLine; decide, fun p hp => q p _ _ hp (Int.mul_nonneg (by split <;> omega) (by split <;> omega))⟩
theorem sc_law_draw : FnScope ["stream", "count", "result"] ["stream", "count"] (defScope s_law_draw) := ⟨rfl, rfl, rfl, by decide +kernel, rfl, by decide +kernel, by decide +kernel⟩
theorem ok_draw (D : DefK K mg "_law_draw" s_law_draw) : Cal P w K mg base CX0 1 "_law_draw" spDraw := by
  refine D.cal sc_law_draw (fun _ _ _ _ _ _ us hl => match us, hl with | [_, _], _ => rfl) (fun vs H Q E h => ?_) fun f cdv A outer s H vs Q E hr h => ?_
  · obtain ⟨p, a, b, n, rfl, _⟩ := h; rfl
  · obtain ⟨p, a, b, n, rfl, hp, ha, hn, hb, q⟩ := h
    have at0 : ∀ x y : Int, atI [V.int x, V.int y] 0 = some (V.int x) := fun _ _ => atI_nat (j := 0) rfl
    have at1 : ∀ x y : Int, atI [V.int x, V.int y] 1 = some (V.int y) := fun _ _ => atI_nat (j := 1) rfl
    have hw : CDivW a n := wide_div hn hb (by decide) (by decide)
    refine ⟨_, (pss_cons (ps_if (pt_cmpR op_gt (pe_ix (r := rIxL K) ix_list (pv 0) pe_int (fun _ _ => rfl)) pe_int (nomark _)) (pss_cons (ps_set (i := 2) sc_law_draw.nd rfl (Or.inl rfl) (pe_op op_mod (pe_ix (r := rIxL K) ix_list (pv 0) pe_int (fun _ _ => rfl)) (pv 1)))
      (pss_cons (ps_asg (pe_op op_fdivW (pe_ix (r := rIxL K) ix_list (pv 0) pe_int (fun _ _ => rfl)) (pv 1)) (pg_sub (pv 0) pe_int set_list))
      (pss_one (ps_ret (pv 2))))) pss_nil)
      (pss_cons (ps_asg (pe_op op_mod (pe_op op_add (pe_op op_mul (pe_ix (r := rIxL K) ix_list (pv 0) pe_int (fun _ _ => rfl)) pe_int) pe_int) pe_int) (pg_sub (pv 0) pe_int set_list))
      (pss_one (ps_ret (pe_op op_mod (pe_op op_fdiv (pe_op op_mod (pe_op op_mul (pe_ix (r := rIxL K) ix_list (pv 0) pe_int (fun _ _ => rfl)) (pe_ix (r := rIxL K) ix_list (pv 0) pe_int (fun _ _ => rfl))) pe_int) pe_int) (pv 1)))))), ?_⟩
    refine ⟨_, rfl, p, _, _, _, rfl, rfl, SqL.of hp, at0 _ _, _, _, rfl, rfl, _, rfl, ?_⟩
    by_cases c : 0 < a
    · rw [decide_eq_true c]
      refine iteT ⟨_, rfl, p, _, _, _, rfl, rfl, SqL.of hp, at0 _ _, _, rfl, _, _, rfl, rfl, hn, ?_⟩
      refine ⟨_, rfl, p, _, _, _, rfl, rfl, SqL.of hp, at0 _ _, _, rfl, _, _, rfl, rfl, hw, ?_⟩
      refine ⟨_, rfl, p, _, _, 0, rfl, rfl, hp, rfl, ?_⟩
      refine ⟨_, rfl, q _ _ _ (Int.emod_nonneg _ (by omega)) (Int.emod_lt_of_pos _ hn) (Int.ediv_nonneg ha (by omega))⟩
    · rw [decide_eq_false c]
      refine iteF ⟨_, rfl, p, _, _, _, rfl, rfl, SqL.of hp, at1 _ _, ?_⟩
      walk_at "rd"
      refine ⟨p, _, _, 1, rfl, rfl, hp, rfl, ?_⟩
      refine ⟨_, rfl, p, _, _, _, rfl, rfl, SqL.of upd_same, at1 _ _, _, rfl, p, _, _, _, rfl, rfl, SqL.of upd_same, at1 _ _, _, _, rfl, rfl, ?_⟩
      have m1 := Int.emod_nonneg (b * 39373 + 7) (show (2147483647 : Int) ≠ 0 by decide)
      have m2 := Int.emod_lt_of_pos (b * 39373 + 7) (show (0 : Int) < 2147483647 by decide)
      refine ⟨.inl ⟨by omega, by omega⟩, _, _, rfl, rfl, show (0 : Int) < _ by decide, _, _, rfl, rfl, ⟨by decide, by decide⟩, _, rfl, _, _, rfl, rfl, hn, ?_⟩
      exact q _ _ _ (Int.emod_nonneg _ (by omega)) (Int.emod_lt_of_pos _ hn) ha
theorem sc_law_choose : FnScope ["stream", "items"] ["stream", "items"] (defScope s_law_choose) := ⟨rfl, rfl, rfl, by decide +kernel, rfl, by decide +kernel, by decide +kernel⟩
theorem ok_choose (D : DefK K mg "_law_choose" s_law_choose) (T : Txt K mg) (G_law_draw : Cal P w K mg base CX0 1 "_law_draw" spDraw) : Cal P w K mg base CX0 2 "_law_choose" (spChoose K) := by
  refine D.cal sc_law_choose (fun _ _ _ _ _ _ us hl => match us, hl with | [_, _], _ => rfl) (fun vs H Q E h => ?_) fun f cdv A outer s H vs Q E hr h => ?_
  · obtain ⟨p, l, a, b, rfl, _⟩ := h; rfl
  · obtain ⟨p, y, a, b, rfl, hp, ha, h⟩ := h
    refine ⟨_, (pss_one (ps_ret (pe_ix (r := rIx K) ix_seq (pv 1) (pe_c G_law_draw hr (by decide) rfl (pa_cons (pv 0) (pa_cons (pe_callB call_len (by rfl) T.b_len (by decide +kernel) (pa_cons (pv 1) pa_nil)) pa_nil))) (fun _ _ => rfl)))), ?_⟩
    rcases h with ⟨l, xs, rfl, hl, n, h0, h1, q⟩ | ⟨z, rfl, h0, h1, q⟩
    · refine ⟨_, rfl, _, rfl, _, rfl, .ref l, xs.length, rfl, .inl ⟨xs, hl, rfl⟩, p, a, b, _, rfl, hp, ha, by omega, i1000 (by omega) (by omega), fun v a' b' v0 v1 a0 => ?_⟩
      have hi : v.toNat < xs.length := by omega
      have ev : xs[v.toNat]? = some (xs[v.toNat]'hi) := List.getElem?_eq_getElem hi
      have ev2 : v = ((v.toNat : Nat) : Int) := by omega
      exact .inl ⟨l, xs, v, _, rfl, rfl, seq_upd hl n, at_of ev2 ev, q v.toNat _ a' b' ev a0⟩
    · have hz : z.length ≤ sizeLine := by rw [sizeLine_eq]; omega
      refine ⟨_, rfl, _, rfl, _, rfl, .str z, z.length, rfl, ⟨hz, rfl⟩, p, a, b, _, rfl, hp, ha, by omega, i1000 (by omega) (by omega), fun v a' b' v0 v1 a0 => ?_⟩
      obtain ⟨j, rfl⟩ : ∃ j : Nat, v = (j : Int) := ⟨v.toNat, by omega⟩
      have hi : j < z.cps.toList.length := by
        have e : z.length = z.cps.size := rfl
        rw [Array.length_toList]; omega
      have ev : z.cps.toList[j]? = some (z.cps.toList[j]'hi) := List.getElem?_eq_getElem hi
      exact .inr (.inr ⟨z, _, _, rfl, rfl, hz, atI_nat ev, q _ a' b' (List.getElem_mem hi) a0⟩)
theorem sc_law_words : FnScope ["stream", "count", "letters", "head", "tail", "first", "step", "at", "turn"] ["stream", "count"] (defScope s_law_words) := ⟨rfl, rfl, rfl, by decide +kernel, rfl, by decide +kernel, by decide +kernel⟩
theorem ok_words (D : DefK K mg "_law_words" s_law_words) (T : Txt K mg) (G_law_draw : Cal P w K mg base CX0 1 "_law_draw" spDraw) (G_law_choose : Cal P w K mg base CX0 2 "_law_choose" (spChoose K)) : Cal P w K mg base CX0 3 "_law_words" spWords := by
  refine D.cal sc_law_words (fun _ _ _ _ _ _ us hl => match us, hl with | [_, _], _ => rfl) (fun vs H Q E h => ?_) fun f cdv A outer s H vs Q E hr h => ?_
  · obtain ⟨p, n, rfl, _⟩ := h; rfl
  · obtain ⟨p, n, rfl, n0, n9, ⟨a, b, hp, ha⟩, k⟩ := h
    refine ⟨_, (pss_cons (ps_set (i := 2) sc_law_words.nd rfl (Or.inr rfl) pe_str)
      (pss_cons (ps_asg (pe_tup (pa_cons (pe_c G_law_draw hr (by decide) rfl (pa_cons (pv 0) (pa_cons pe_int pa_nil))) (pa_cons (pe_c G_law_choose hr (by decide) rfl (pa_cons (pv 0) (pa_cons (pe_lst (pa_cons pe_int (pa_cons pe_int (pa_cons pe_int (pa_cons pe_int (pa_cons pe_int (pa_cons pe_int (pa_cons pe_int (pa_cons pe_int (pa_cons pe_int (pa_cons pe_int (pa_cons pe_int (pa_cons pe_int pa_nil))))))))))))) pa_nil))) pa_nil))) (pg_tup rfl (pgs_cons (pg_name (i := 5) sc_law_words.nd rfl (Or.inr rfl)) (pgs_cons (pg_name (i := 6) sc_law_words.nd rfl (Or.inr rfl)) pgs_nil))))
      (pss_cons (ps_set (i := 3) sc_law_words.nd rfl (Or.inr rfl) (pe_join pe_str (pe_lc (own := [("turn", 8)]) (g := gName 8) (by rfl) sc_law_words.nd (pi_range1 (by rfl) T.b_range (pa_cons (pe_c G_law_draw hr (by decide) rfl (pa_cons (pv 0) (pa_cons pe_int pa_nil))) pa_nil)) (blkOk_by (own := [("turn", 8)]) (N := ["stream", "count", "letters", "head", "tail", "first", "step", "at", "turn"]) (sc := defScope s_law_words) (by decide +kernel)) (fun _ _ _ _ _ => pg_name (i := 8) sc_law_words.nd rfl (Or.inl rfl)) (fun _ _ _ _ _ => pts_nil) (fun _ _ _ _ _ => (pe_c G_law_choose hr (by decide) rfl (pa_cons (pv 0) (pa_cons (pv 2) pa_nil)))))))
      (pss_cons (ps_set (i := 4) sc_law_words.nd rfl (Or.inr rfl) (pe_join pe_str (pe_lc (own := [("turn", 8)]) (g := gName 8) (by rfl) sc_law_words.nd (pi_range1 (by rfl) T.b_range (pa_cons (pe_c G_law_draw hr (by decide) rfl (pa_cons (pv 0) (pa_cons pe_int pa_nil))) pa_nil)) (blkOk_by (own := [("turn", 8)]) (N := ["stream", "count", "letters", "head", "tail", "first", "step", "at", "turn"]) (sc := defScope s_law_words) (by decide +kernel)) (fun _ _ _ _ _ => pg_name (i := 8) sc_law_words.nd rfl (Or.inl rfl)) (fun _ _ _ _ _ => pts_nil) (fun _ _ _ _ _ => (pe_c G_law_choose hr (by decide) rfl (pa_cons (pv 0) (pa_cons (pv 2) pa_nil)))))))
      (pss_one (ps_ret (pe_lc (own := [("at", 7)]) (g := gName 7) (by rfl) sc_law_words.nd (pi_range1 (by rfl) T.b_range (pa_cons (pv 1) pa_nil)) (blkOk_by (own := [("at", 7)]) (N := ["stream", "count", "letters", "head", "tail", "first", "step", "at", "turn"]) (sc := defScope s_law_words) (by decide +kernel)) (fun _ _ _ _ _ => pg_name (i := 7) sc_law_words.nd rfl (Or.inl rfl)) (fun _ _ _ _ _ => pts_nil) (fun _ _ _ _ _ => (pe_op op_add_str (pe_op op_add_str (pv 3) (pe_ix (r := rIxS) ix_str (pv 2) (pe_op op_mod (pe_op op_add (pv 5) (pe_op op_mul (pv 6) (pv 7))) pe_int) (fun _ _ => rfl))) (pv 4)))))))))), ?_⟩
    refine ⟨_, rfl, p, a, b, 26, rfl, hp, ha, by decide, by decide +kernel, fun f1 a1 b1 f0 f26 ha1 => ?_⟩
    have s1 := SameB.mut (o := .lst [.int a1, .int b1]) (SameB.refl p H)
    refine ⟨_, rfl, by show 12 ≤ sizeLine; decide, fun l nl => ?_⟩
    have st1 : StA (upd H p (.lst [.int a1, .int b1])) p := ⟨a1, b1, upd_same, ha1⟩
    have lp := st1.ne nl
    refine ⟨p, .ref l, a1, b1, rfl, by rw [upd_ne lp.symm, upd_same], ha1, .inl ⟨l, _, rfl, SqL.of upd_same, lp, by show 0 < 12; decide, by show 12 < 1000; decide, fun j v a2 b2 hv ha2 => ?_⟩⟩
    have hs : ∃ n, v = V.int n ∧ (0 < n ∧ n < 26) ∧ (n = 1 ∨ n = 3 ∨ n = 5 ∨ n = 7 ∨ n = 9 ∨ n = 11 ∨ n = 15 ∨ n = 17 ∨ n = 19 ∨ n = 21 ∨ n = 23 ∨ n = 25) := by
      match j, hv with
      | 0, hv => cases hv; exact ⟨_, rfl, ⟨by decide, by decide⟩, by decide⟩
      | 1, hv => cases hv; exact ⟨_, rfl, ⟨by decide, by decide⟩, by decide⟩
      | 2, hv => cases hv; exact ⟨_, rfl, ⟨by decide, by decide⟩, by decide⟩
      | 3, hv => cases hv; exact ⟨_, rfl, ⟨by decide, by decide⟩, by decide⟩
      | 4, hv => cases hv; exact ⟨_, rfl, ⟨by decide, by decide⟩, by decide⟩
      | 5, hv => cases hv; exact ⟨_, rfl, ⟨by decide, by decide⟩, by decide⟩
      | 6, hv => cases hv; exact ⟨_, rfl, ⟨by decide, by decide⟩, by decide⟩
      | 7, hv => cases hv; exact ⟨_, rfl, ⟨by decide, by decide⟩, by decide⟩
      | 8, hv => cases hv; exact ⟨_, rfl, ⟨by decide, by decide⟩, by decide⟩
      | 9, hv => cases hv; exact ⟨_, rfl, ⟨by decide, by decide⟩, by decide⟩
      | 10, hv => cases hv; exact ⟨_, rfl, ⟨by decide, by decide⟩, by decide⟩
      | 11, hv => cases hv; exact ⟨_, rfl, ⟨by decide, by decide⟩, by decide⟩
      | j + 12, hv => cases hv
    obtain ⟨st, rfl, ⟨st0, st26⟩, odd⟩ := hs
    have s2 := (s1.new (o := .lst [.int 1, .int 3, .int 5, .int 7, .int 9, .int 11, .int 15, .int 17, .int 19, .int 21, .int 23, .int 25]) nl).mut (o := .lst [.int a2, .int b2])
    refine ⟨by show 2 ≤ sizeLine; decide, fun tp ntp => ?_⟩
    have s3 := s2.new (o := .tup [.int f1, .int st]) ntp
    have tpp : tp ≠ p := fun z => by rw [z, upd_same] at ntp; cases ntp
    refine ⟨tp, _, rfl, SqT.of upd_same, rfl, _, _, rfl, _, _, rfl, rfl, ?_⟩
    have hp3 : (upd (upd (upd (upd H p (.lst [.int a1, .int b1])) l (.lst [.int 1, .int 3, .int 5, .int 7, .int 9, .int 11, .int 15, .int 17, .int 19, .int 21, .int 23, .int 25])) p (.lst [.int a2, .int b2])) tp (.tup [.int f1, .int st])) p = some (.lst [.int a2, .int b2]) := by rw [upd_ne tpp.symm, upd_same]
    revert s3 hp3
    generalize upd (upd (upd (upd H p (.lst [.int a1, .int b1])) l (.lst [.int 1, .int 3, .int 5, .int 7, .int 9, .int 11, .int 15, .int 17, .int 19, .int 21, .int 23, .int 25])) p (.lst [.int a2, .int b2])) tp (.tup [.int f1, .int st]) = H3
    intro s3 hp3
    -- head
    refine ⟨⟨_, rfl⟩, _, rfl, p, a2, b2, 4, rfl, hp3, ha2, by decide, by decide +kernel, fun n1 a3 b3 n10 n14 ha3 => ?_⟩
    refine ⟨n1, rfl, by omega, by omega, fun D nD => ?_⟩
    have st3 : StA (upd H3 p (.lst [.int a3, .int b3])) p := ⟨a3, b3, upd_same, ha3⟩
    have Dp := st3.ne nD
    refine lc_range (lo := 0) (n := n1.toNat) (fun i H' => ∃ ys : List Str, H' D = some (.lst (ys.map V.str)) ∧ Ones ys ∧ ys.length = i ∧ StA H' p ∧ SameB p H H') ⟨[], upd_same, (fun z hz => by cases hz), rfl, ⟨a3, b3, by rw [upd_ne Dp.symm, upd_same], ha3⟩, (s3.mut).new nD⟩ (fun i H4 hi ⟨ys, hD, ho, hl, ⟨a4, b4, hp4, ha4⟩, s4⟩ => ?_) (fun H4 ⟨ys, hD, ho, hl, ⟨a4, b4, hp4, ha4⟩, s4⟩ => ?_)
    · refine ⟨rfl, ?_⟩
      refine yes_if ?_
      refine ⟨_, rfl, _, rfl, p, .str letters, a4, b4, rfl, hp4, ha4, .inr ⟨letters, rfl, by rw [letters_len]; decide, by rw [letters_len]; decide, fun c a5 b5 hc ha5 => ?_⟩⟩
      refine ⟨ys.map V.str, by rw [upd_ne Dp]; exact hD, ?_, ys ++ [⟨#[c]⟩], ?_, ?_, ?_, ⟨a5, b5, by rw [upd_ne Dp.symm, upd_same], ha5⟩, ?_⟩
      · rw [List.length_map, sizeLine_eq]; omega
      · rw [upd_same, List.map_append]; rfl
      · intro z hz
        rcases List.mem_append.mp hz with hz | hz
        · exact ho z hz
        · have e : z = ⟨#[c]⟩ := by simpa using hz
          rw [e]
          exact ⟨az_one (letters_az c hc), rfl⟩
      · rw [List.length_append, hl]; rfl
      · intro q o e n
        have nqD : q ≠ D := fun z => by
          have z1 := (s3.mut (o := .lst [.int a3, .int b3])) q o e n
          rw [z, nD] at z1; cases z1
        rw [upd_ne nqD, upd_ne n]
        exact s4 q o e n
    obtain ⟨hz1, hl1⟩ := join_az ys ho
    refine ⟨_, D, ys, rfl, rfl, .inl (SqL.of hD), by rw [ones_sum ys ho]; show ys.length + ys.length * 0 ≤ _; omega, ?_⟩
    have e0 : Str.ofString "" = Str.empty := by decide +kernel
    have ej : PySem.Txt.join (Str.ofString "") ys = Str.join Str.empty ys := by rw [e0]; exact StrLaws.glued_eq_join _ _
    have hz1' : AZ (PySem.Txt.join (Str.ofString "") ys) := ej ▸ hz1
    have hl1' : (PySem.Txt.join (Str.ofString "") ys).length ≤ 3 := by rw [ej, hl1]; omega
    clear hz1 hl1 ej
    revert hz1' hl1'
    show AZ (PySem.Txt.join (Str.ofString "") ys) → (PySem.Txt.join (Str.ofString "") ys).length ≤ 3 → _
    generalize PySem.Txt.join (Str.ofString "") ys = hd
    intro hz1 hl1
    -- tail
    have sD : SameB p H H4 := s4
    clear st3 nD
    refine ⟨⟨_, rfl⟩, _, rfl, p, a4, b4, 4, rfl, hp4, ha4, by decide, by decide +kernel, fun n2 a6 b6 n20 n24 ha6 => ?_⟩
    refine ⟨n2, rfl, by omega, by omega, fun D2 nD2 => ?_⟩
    have st6 : StA (upd H4 p (.lst [.int a6, .int b6])) p := ⟨a6, b6, upd_same, ha6⟩
    have Dp2 := st6.ne nD2
    refine lc_range (lo := 0) (n := n2.toNat) (fun i H' => ∃ ys : List Str, H' D2 = some (.lst (ys.map V.str)) ∧ Ones ys ∧ ys.length = i ∧ StA H' p ∧ SameB p H H') ⟨[], upd_same, (fun z hz => by cases hz), rfl, ⟨a6, b6, by rw [upd_ne Dp2.symm, upd_same], ha6⟩, (sD.mut).new nD2⟩ (fun i H5 hi ⟨ys, hD, ho, hl, ⟨a7, b7, hp7, ha7⟩, s5⟩ => ?_) (fun H5 ⟨ys, hD, ho, hl, ⟨a7, b7, hp7, ha7⟩, s5⟩ => ?_)
    · refine ⟨rfl, ?_⟩
      refine yes_if ?_
      refine ⟨_, rfl, _, rfl, p, .str letters, a7, b7, rfl, hp7, ha7, .inr ⟨letters, rfl, by rw [letters_len]; decide, by rw [letters_len]; decide, fun c a5 b5 hc ha5 => ?_⟩⟩
      refine ⟨ys.map V.str, by rw [upd_ne Dp2]; exact hD, ?_, ys ++ [⟨#[c]⟩], ?_, ?_, ?_, ⟨a5, b5, by rw [upd_ne Dp2.symm, upd_same], ha5⟩, ?_⟩
      · rw [List.length_map, sizeLine_eq]; omega
      · rw [upd_same, List.map_append]; rfl
      · intro z hz
        rcases List.mem_append.mp hz with hz | hz
        · exact ho z hz
        · have e : z = ⟨#[c]⟩ := by simpa using hz
          rw [e]
          exact ⟨az_one (letters_az c hc), rfl⟩
      · rw [List.length_append, hl]; rfl
      · intro q o e n
        have nqD : q ≠ D2 := fun z => by
          have z1 := (sD.mut (o := .lst [.int a6, .int b6])) q o e n
          rw [z, nD2] at z1; cases z1
        rw [upd_ne nqD, upd_ne n]
        exact s5 q o e n
    obtain ⟨hz2, hl2⟩ := join_az ys ho
    refine ⟨_, D2, ys, rfl, rfl, .inl (SqL.of hD), by rw [ones_sum ys ho]; show ys.length + ys.length * 0 ≤ _; omega, ?_⟩
    have e0 : Str.ofString "" = Str.empty := by decide +kernel
    have ej : PySem.Txt.join (Str.ofString "") ys = Str.join Str.empty ys := by rw [e0]; exact StrLaws.glued_eq_join _ _
    have hz2' : AZ (PySem.Txt.join (Str.ofString "") ys) := ej ▸ hz2
    have hl2' : (PySem.Txt.join (Str.ofString "") ys).length ≤ 3 := by rw [ej, hl2]; omega
    clear hz2 hl2 ej
    revert hz2' hl2'
    show AZ (PySem.Txt.join (Str.ofString "") ys) → (PySem.Txt.join (Str.ofString "") ys).length ≤ 3 → _
    generalize PySem.Txt.join (Str.ofString "") ys = tl
    intro hz2 hl2
    -- the words
    refine ⟨_, rfl, n, rfl, by omega, by omega, fun l3 nl3 => ?_⟩
    have stE : StA H5 p := ⟨a7, b7, hp7, ha7⟩
    have lp3 := stE.ne nl3
    have nlH : H l3 = none := by
      cases e : H l3 with
      | none => rfl
      | some o =>
        have z := s5 l3 o e lp3
        rw [nl3] at z; cases z
    refine lc_range (lo := 0) (n := n.toNat) (fun i H' => ∃ ws : List Str, H' = upd H5 l3 (.lst (ws.map V.str)) ∧ (∀ z ∈ ws, Wd z) ∧ ws.length = i ∧ ws = (List.range i).map fun i => hd ++ (⟨#[stepC f1 st i]⟩ : Str) ++ tl) ⟨[], rfl, (fun z hz => by cases hz), rfl, rfl⟩ (fun i H6 hi ⟨ws, e6, hw, hl, ew⟩ => ?_) (fun H6 ⟨ws, e6, hw, hl, ew⟩ => ?_)
    · subst e6
      refine ⟨rfl, ?_⟩
      refine yes_if ?_
      have m0 := Int.emod_nonneg (f1 + st * (0 + (i : Int))) (show (26 : Int) ≠ 0 by decide)
      have m1 := Int.emod_lt_of_pos (f1 + st * (0 + (i : Int))) (show (0 : Int) < 26 by decide)
      obtain ⟨j, ej⟩ : ∃ j : Nat, (f1 + st * (0 + (i : Int))) % 26 = (j : Int) := ⟨((f1 + st * (0 + (i : Int))) % 26).toNat, by omega⟩
      have hj : j < letters.cps.toList.length := by
        have e : letters.cps.toList.length = 26 := by decide +kernel
        omega
      have ev : letters.cps.toList[j]? = some (letters.cps.toList[j]'hj) := List.getElem?_eq_getElem hj
      have hc := letters_az _ (List.getElem_mem hj)
      refine ⟨_, rfl, _, rfl, _, rfl, _, rfl, _, rfl, st, _, rfl, rfl, .inl ⟨by omega, by omega⟩, f1, _, rfl, rfl, _, _, rfl, rfl, (by show (0 : Int) < 26; decide), ?_⟩
      refine ⟨letters, _, _, rfl, rfl, by rw [letters_len, sizeLine_eq]; decide, by rw [ej]; exact atI_nat ev, ?_⟩
      have l1 : (⟨#[letters.cps.toList[j]'hj]⟩ : Str).length = 1 := rfl
      refine ⟨hd, _, rfl, rfl, by rw [l1, sizeLine_eq]; omega, _, rfl, _, tl, rfl, rfl, by rw [Str.length_append, l1, sizeLine_eq]; omega, ?_⟩
      refine ⟨ws.map V.str, upd_same, by rw [List.length_map, sizeLine_eq]; omega, ws ++ [hd ++ ⟨#[letters.cps.toList[j]'hj]⟩ ++ tl], ?_, ?_, ?_, ?_⟩
      · rw [upd_upd, List.map_append]; rfl
      · intro z hz
        rcases List.mem_append.mp hz with hz | hz
        · exact hw z hz
        · have e : z = hd ++ ⟨#[letters.cps.toList[j]'hj]⟩ ++ tl := by simpa using hz
          rw [e]
          refine ⟨az_app (az_app hz1 (az_one hc)) hz2, ?_, ?_⟩
          · rw [Str.length_append, Str.length_append, l1]; omega
          · rw [Str.length_append, Str.length_append, l1]; omega
      · rw [List.length_append, hl]; rfl
      · have lj : letters.cps.toList[j]'hj = 97 + j := by
          have all : ∀ i, (hi : i < letters.cps.toList.length) → letters.cps.toList[i]'hi = 97 + i := by decide +kernel
          exact all j hj
        have sj : stepC f1 st i = 97 + j := by unfold stepC; rw [ej]; rfl
        rw [List.range_succ, List.map_append, ← ew, lj]
        show _ = ws ++ [hd ++ ⟨#[stepC f1 st i]⟩ ++ tl]
        rw [sj]
    · subst e6
      exact k l3 ws _ nlH lp3 hl hw (ew ▸ nodup_steps odd (by omega)) upd_same ⟨a7, b7, by rw [upd_ne lp3.symm]; exact hp7, ha7⟩ (s5.new nl3)
end
end K09C
namespace K09C
open PySem PySem.Spec PyProof.Rows L2 Jg
local macro_rules | `(tactic| walk_at "rd1") => `(tactic| (first
  | refine ⟨_, rfl, ?_⟩
  | refine ⟨_, _, rfl, rfl, ?_⟩
  | refine ⟨_, _, rfl, ?_⟩
  | refine ⟨rfl, ?_⟩
  | (refine ⟨show (0 : Int) < _ by omega, ?_⟩)
  | (refine ⟨Or.inl ⟨by omega, by omega⟩, ?_⟩)
  | (refine ⟨Or.inr ⟨by omega, by omega⟩, ?_⟩)
  | (refine ⟨(⟨by decide, by decide, by decide⟩ : CPow _ _), ?_⟩)
  | refine Or.inl ⟨_, rfl, ?_⟩
  | refine Or.inr ⟨_, rfl, ?_⟩
  | fail "rd"))
local macro_rules | `(tactic| walk_at "rd") => `(tactic| repeat' walk_at "rd1")
theorem get_u (d v : Addr) (n : Int) (s : Addr) : (cflds d v n s).lookup ("_uses" : Str) = some (.ref d) := by
  have e : ((("_uses" : Str)) == ("_uses" : Str)) = true := by decide +kernel
  simp only [cflds, List.lookup, e]
theorem get_v (d v : Addr) (n : Int) (s : Addr) : (cflds d v n s).lookup ("_vouchers" : Str) = some (.ref v) := by
  have e1 : ((("_vouchers" : Str)) == ("_uses" : Str)) = false := by decide +kernel
  have e : ((("_vouchers" : Str)) == ("_vouchers" : Str)) = true := by decide +kernel
  simp only [cflds, List.lookup, e1, e]
theorem get_n (d v : Addr) (n : Int) (s : Addr) : (cflds d v n s).lookup ("_needed" : Str) = some (.int n) := by
  have e1 : ((("_needed" : Str)) == ("_uses" : Str)) = false := by decide +kernel
  have e2 : ((("_needed" : Str)) == ("_vouchers" : Str)) = false := by decide +kernel
  have e : ((("_needed" : Str)) == ("_needed" : Str)) = true := by decide +kernel
  simp only [cflds, List.lookup, e1, e2, e]
theorem get_s (d v : Addr) (n : Int) (s : Addr) : (cflds d v n s).lookup ("_signers" : Str) = some (.ref s) := by
  have e1 : ((("_signers" : Str)) == ("_uses" : Str)) = false := by decide +kernel
  have e2 : ((("_signers" : Str)) == ("_vouchers" : Str)) = false := by decide +kernel
  have e3 : ((("_signers" : Str)) == ("_needed" : Str)) = false := by decide +kernel
  have e : ((("_signers" : Str)) == ("_signers" : Str)) = true := by decide +kernel
  simp only [cflds, List.lookup, e1, e2, e3, e]
def spLst (C : Addr) (f : Ct → List Str) : Sp := fun vs H Q _ => ∃ x c S, vs = [.ref x] ∧ CAt S C H x c ∧ ∀ p, H p = none → Q (.ref p) (upd H p (.lst ((f c).map V.str)))
section
variable {P : Program} {w : World} {K : PySem.W.Frag} {mg : Str → Option Value} {base : Heap} {C CU : Addr}
theorem sc_Contents_roles : FnScope ["self"] ["self"] (defScope s_Contents_roles) := ⟨rfl, rfl, rfl, by decide +kernel, rfl, by decide +kernel, by decide +kernel⟩
theorem ok_croles (D : PrpK K C "roles" "Contents.roles" s_Contents_roles) (T : Txt K mg) (J : CTx K mg C) : Prp P w K mg base CX0 1 C "roles" (spLst C fun c => c.us.map (·.z)) := by
  refine D.prp sc_Contents_roles (fun _ _ _ _ _ _ us hl => match us, hl with | [_], _ => rfl) (fun vs H Q E h => ?_) fun f cdv A outer s H vs Q E hr h => ?_
  · obtain ⟨x, c, S, rfl, _⟩ := h; rfl
  · obtain ⟨x, c, S, rfl, ⟨⟨dx, d, v, sg, e1, e2, e3, e4, _⟩, _⟩, k⟩ := h
    refine ⟨_, (pss_one (ps_ret (pe_callTy (call_list_dK rfl) (by rfl) T.b_list (by decide +kernel) (pa_cons (pe_fld (pv 0) rfl) pa_nil)))), ?_⟩
    have mz : (dictU c.us).map (fun kv => kV kv.1) = (c.us.map (·.z)).map V.str := by unfold dictU; rw [List.map_map, List.map_map]; rfl
    refine ⟨_, rfl, x, C, dx, _, _, rfl, e1, J.cl, J.nu, get_u _ _ _ _, d, dictU c.us, rfl, e2, fun q nq => ?_⟩
    rw [mz]
    exact k q nq
end
end K09C
namespace K09C
open PySem PySem.Spec PyProof.Rows L2 Jg
local macro_rules | `(tactic| walk_at "rd1") => `(tactic| (first
  | refine ⟨_, rfl, ?_⟩
  | refine ⟨_, _, rfl, rfl, ?_⟩
  | refine ⟨_, _, rfl, ?_⟩
  | refine ⟨rfl, ?_⟩
  | (refine ⟨show (0 : Int) < _ by omega, ?_⟩)
  | (refine ⟨Or.inl ⟨by omega, by omega⟩, ?_⟩)
  | (refine ⟨Or.inr ⟨by omega, by omega⟩, ?_⟩)
  | (refine ⟨(⟨by decide, by decide, by decide⟩ : CPow _ _), ?_⟩)
  | refine Or.inl ⟨_, rfl, ?_⟩
  | refine Or.inr ⟨_, rfl, ?_⟩
  | fail "rd"))
local macro_rules | `(tactic| walk_at "rd") => `(tactic| repeat' walk_at "rd1")
def tri (r : Use) : Str × List Str × Str := (r.z, r.ks, r.u)
def usD (us : List Use) : List (Key × PyData) := us.map fun r => (Sum.inr r.z, .tuple [.list (r.ks.map PyData.str), .str r.u])
def ctB (c e : Ct) : Bool := decide (c.us.map tri = e.us.map tri) && (decide (c.vo = e.vo) && (decide (c.ne = e.ne) && decide (c.si = e.si)))
theorem okW_word {z : Str} (h : wordB z = true) : okW z := by
  unfold wordB at h
  exact okW_ascii (Bool.and_eq_true_iff.mp (Bool.and_eq_true_iff.mp h).2).1
theorem KsOk.okW {ks : List Str} {m : Nat} (h : KsOk ks m) : ∀ z ∈ ks, okW z := fun z hz => okW_word (h.w z hz)
theorem eqv_use (k1 k2 : List Str) (u1 u2 : Str) : PyData.eqv (.tuple [.list (k1.map PyData.str), .str u1]) (.tuple [.list (k2.map PyData.str), .str u2]) = (decide (k1 = k2) && decide (u1 = u2)) := by
  rw [PyData.eqv]
  show (PyData.eqv (.list (k1.map PyData.str)) (.list (k2.map PyData.str)) && (PyData.eqv (.str u1) (.str u2) && true)) = _
  rw [eqv_strs, eqv_str, Bool.and_true]
theorem sh_use {k : List Str} {u : Str} (h : ∀ z ∈ k, okW z) (hu : okW u) : Sh40 (.tuple [.list (k.map PyData.str), .str u]) := by
  have e : PyData.canLay0 (.str u) = true := by
    unfold Jg.okW at hu
    simp [PyData.canLay0, hu]
  refine ⟨?_, ?_⟩
  · show (PyData.canLayAll0 (k.map PyData.str) && (PyData.canLay0 (.str u) && true)) = true
    rw [lay_strs k h, e]; rfl
  · show max (PyData.depthAll (k.map PyData.str) + 1) (max 0 0) + 1 ≤ 40
    rw [depth_strs]; decide
theorem dv_us {K : PySem.W.Frag} {S : Addr → Prop} {H : Hp} : ∀ {us : List Use}, (∀ r ∈ us, UAt S H r) → (∀ r ∈ us, KsOk r.ks 8 ∧ wordB r.z = true ∧ wordB r.u = true) → DvK K H (dictU us) (usD us)
  | [], _, _ => .nil
  | r :: rest, h, k => .cons ⟨rfl, .tup (SqT.of (h r (List.mem_cons_self ..)).tp) (.cons (dp_strs (SqL.of (h r (List.mem_cons_self ..)).ls)) (.cons (.str _) .nil)), sh_use (k r (List.mem_cons_self ..)).1.okW (okW_word (k r (List.mem_cons_self ..)).2.2)⟩
      (dv_us (fun r hr => h r (List.mem_cons_of_mem _ hr)) fun r hr => k r (List.mem_cons_of_mem _ hr))
theorem look_in : ∀ (us : List Use) (r : Use), (us.map (·.z)).Nodup → r ∈ us → look (usD us) (Sum.inr r.z) = some (.tuple [.list (r.ks.map PyData.str), .str r.u]) := by
  intro us
  induction us with
  | nil => intro r _ h; cases h
  | cons p rest ih =>
    intro r nd hr
    rw [List.map_cons, List.nodup_cons] at nd
    show (if (Sum.inr p.z : Key) = Sum.inr r.z then _ else look (usD rest) (Sum.inr r.z)) = _
    rcases List.mem_cons.mp hr with e | h
    · rw [e, if_pos rfl]
    · rw [if_neg fun q => nd.1 (List.mem_map.mpr ⟨r, h, (Sum.inr.inj q).symm⟩)]
      exact ih r nd.2 h
theorem look_not : ∀ (us : List Use) (z : Str), z ∉ us.map (·.z) → look (usD us) (Sum.inr z) = none
  | [], _, _ => rfl
  | p :: rest, z, h => by
    rw [List.map_cons, List.mem_cons, not_or] at h
    show (if (Sum.inr p.z : Key) = Sum.inr z then _ else look (usD rest) (Sum.inr z)) = _
    rw [if_neg fun q => h.1 (Sum.inr.inj q).symm]
    exact look_not rest z h.2
theorem eqv_uses {c e : Ct} (hc : CtOk c) (he : CtOk e) : eqvD (usD c.us) (usD e.us) = decide (c.us.map tri = e.us.map tri) := by
  rw [Bool.eq_iff_iff, decide_eq_true_iff]
  unfold eqvD
  rw [Bool.and_eq_true, List.all_eq_true]
  constructor
  · rintro ⟨hl, ha⟩
    have hl' : c.us.length = e.us.length := by
      have := eq_of_beq hl
      unfold usD at this
      rwa [List.length_map, List.length_map] at this
    -- each use of the first is one of the second
    have each : ∀ r ∈ c.us, ∃ q ∈ e.us, q.z = r.z ∧ r.ks = q.ks ∧ r.u = q.u := by
      intro r hr
      have h := ha (Sum.inr r.z, .tuple [.list (r.ks.map PyData.str), .str r.u]) (List.mem_map.mpr ⟨r, hr, rfl⟩)
      by_cases m : r.z ∈ e.us.map (·.z)
      · obtain ⟨q, hq, ez⟩ := List.mem_map.mp m
        have l := look_in e.us q he.nd hq
        rw [ez] at l
        simp only [l] at h
        rw [eqv_use, Bool.and_eq_true, decide_eq_true_iff, decide_eq_true_iff] at h
        exact ⟨q, hq, ez, h.1, h.2⟩
      · have l := look_not e.us r.z m
        simp only [l] at h
        cases h
    have zs : c.us.map (·.z) = e.us.map (·.z) := eq_sorted he.so hc.so hc.nd (fun x hx => by
      obtain ⟨r, hr, rfl⟩ := List.mem_map.mp hx
      obtain ⟨q, hq, ez, _⟩ := each r hr
      exact List.mem_map.mpr ⟨q, hq, ez⟩) (by rw [List.length_map, List.length_map]; exact hl')
    refine List.ext_getElem (by rw [List.length_map, List.length_map]; exact hl') fun i h1 h2 => ?_
    rw [List.getElem_map, List.getElem_map]
    rw [List.length_map] at h1 h2
    obtain ⟨q, hq, ez, e1, e2⟩ := each c.us[i] (List.getElem_mem h1)
    have zi : c.us[i].z = e.us[i].z := by
      have := congrArg (fun l => l[i]?) zs
      simp only [List.getElem?_map, List.getElem?_eq_getElem h1, List.getElem?_eq_getElem h2, Option.map_some] at this
      exact Option.some.inj this
    have l1 := look_in e.us q he.nd hq
    have l2 := look_in e.us e.us[i] he.nd (List.getElem_mem h2)
    rw [ez, zi, l2] at l1
    have l3 := Option.some.inj l1
    have l4 : PyData.eqv (.tuple [.list (e.us[i].ks.map PyData.str), .str e.us[i].u]) (.tuple [.list (q.ks.map PyData.str), .str q.u]) = true := by
      rw [← l3, eqv_use, decide_eq_true rfl, decide_eq_true rfl]; rfl
    rw [eqv_use, Bool.and_eq_true, decide_eq_true_iff, decide_eq_true_iff] at l4
    unfold tri
    rw [zi, e1, e2, l4.1, l4.2]
  · intro h
    have hl := congrArg List.length h
    rw [List.length_map, List.length_map] at hl
    refine ⟨by unfold usD; rw [List.length_map, List.length_map, hl]; exact beq_self_eq_true _, fun p hp => ?_⟩
    obtain ⟨r, hr, rfl⟩ := List.mem_map.mp hp
    have m : tri r ∈ e.us.map tri := h ▸ List.mem_map_of_mem hr
    obtain ⟨q, hq, et⟩ := List.mem_map.mp m
    have ez : q.z = r.z := congrArg Prod.fst et
    have ek : q.ks = r.ks := congrArg (fun t => t.2.1) et
    have eu : q.u = r.u := congrArg (fun t => t.2.2) et
    have l := look_in e.us q he.nd hq
    rw [ez] at l
    simp only [l]
    rw [eqv_use, ek, eu, decide_eq_true rfl, decide_eq_true rfl]; rfl
def spCEq (K : PySem.W.Frag) (C : Addr) : Sp := fun vs H Q _ => ∃ x y c S, vs = [.ref x, y] ∧ CAt S C H x c ∧ CtOk c ∧
  ((∃ x2 c2 S2, y = .ref x2 ∧ CAt S2 C H x2 c2 ∧ CtOk c2 ∧ Q (.bl (ctB c c2)) H) ∨ (∃ t, TyX K H y t ∧ PySem.W.kitOne K t (.ref C) = some false ∧ Q (.bl false) H))
section
variable {P : Program} {w : World} {K : PySem.W.Frag} {mg : Str → Option Value} {base : Heap} {C : Addr}
theorem sc_Contents_eq : FnScope ["self", "other"] ["self", "other"] (defScope s_Contents_eq) := ⟨rfl, rfl, rfl, by decide +kernel, rfl, by decide +kernel, by decide +kernel⟩
theorem ok_ceq (D : MetK K C "__eq__" "Contents.__eq__" s_Contents_eq) (T : Txt K mg) (J : CTx K mg C) : Met P w K mg base CX0 1 C "__eq__" (spCEq K C) := by
  refine D.met sc_Contents_eq (fun _ _ _ _ _ _ us hl => match us, hl with | [_, _], _ => rfl) (fun vs H Q E h => ?_) fun f cdv A outer s H vs Q E hr h => ?_
  · obtain ⟨x, y, c, S, rfl, _⟩ := h; rfl
  · obtain ⟨x, y, c, S, rfl, at_, ok, h⟩ := h
    obtain ⟨⟨dx, d, v, sg, e1, e2, e3, e4, _⟩, us⟩ := id at_
    refine ⟨_, (pss_one (ps_ret (pe_and (pe_callB call_isi (by rfl) T.b_isinstance (by decide +kernel) (pa_cons (pv 1) (pa_cons (pe_glob (v := .ref C) rfl J.cC rfl) pa_nil))) (pe_and (pe_cmpR (op_eqDD hr.units) (pe_fld (pv 0) rfl) (pe_fld (pv 1) rfl) (nomark _)) (pe_and (pe_cmpR (op_eqD hr.units) (pe_fld (pv 0) rfl) (pe_fld (pv 1) rfl) (nomark _)) (pe_and (pe_cmpR op_eq (pe_fld (pv 0) rfl) (pe_fld (pv 1) rfl) (nomark _)) (pe_one (pe_cmpR (op_eqD hr.units) (pe_fld (pv 0) rfl) (pe_fld (pv 1) rfl) (nomark _))))))))), ?_⟩
    rcases h with ⟨x2, c2, S2, rfl, at2, ok2, q⟩ | ⟨t, ty, kt, q⟩
    · obtain ⟨⟨dx2, d2, v2, sg2, f1, f2, f3, f4, _⟩, us2⟩ := id at2
      refine ⟨_, rfl, .ref x2, .ref C, _, _, true, rfl, .own C, J.ty f1, J.kCC, _, rfl, iteT ?_⟩
      refine ⟨_, rfl, x, C, dx, _, _, rfl, e1, J.cl, J.nu, get_u _ _ _ _, _, rfl, x2, C, dx2, _, _, rfl, f1, J.cl, J.nu, get_u _ _ _ _, d, d2, _, _, _, _, rfl, rfl, e2, f2, dv_us us ok.us, dv_us us2 ok2.us, _, rfl, ?_⟩
      rw [eqv_uses ok ok2]
      unfold ctB at q
      by_cases c1 : c.us.map tri = c2.us.map tri
      · rw [decide_eq_true c1] at q ⊢
        refine iteT ⟨_, rfl, x, C, dx, _, _, rfl, e1, J.cl, J.nv, get_v _ _ _ _, _, rfl, x2, C, dx2, _, _, rfl, f1, J.cl, J.nv, get_v _ _ _ _, ask_eqS (SqL.of e3) (SqL.of f3) ok.vo.okW ok2.vo.okW ⟨_, rfl, ?_⟩⟩
        by_cases c2' : c.vo = c2.vo
        · rw [decide_eq_true c2'] at q ⊢
          refine iteT ⟨_, rfl, x, C, dx, _, _, rfl, e1, J.cl, J.nn, get_n _ _ _ _, _, rfl, x2, C, dx2, _, _, rfl, f1, J.cl, J.nn, get_n _ _ _ _, rfl, _, rfl, ?_⟩
          have en : decide (V.int c.ne = V.int c2.ne) = decide (c.ne = c2.ne) := by
            rw [Bool.eq_iff_iff, decide_eq_true_iff, decide_eq_true_iff]
            exact ⟨V.int.inj, fun h => by rw [h]⟩
          rw [en]
          by_cases c3 : c.ne = c2.ne
          · rw [decide_eq_true c3] at q ⊢
            refine iteT ⟨_, rfl, x, C, dx, _, _, rfl, e1, J.cl, J.ns, get_s _ _ _ _, _, rfl, x2, C, dx2, _, _, rfl, f1, J.cl, J.ns, get_s _ _ _ _, ask_eqS (SqL.of e4) (SqL.of f4) ok.si.okW ok2.si.okW q⟩
          · rw [decide_eq_false c3] at q ⊢
            exact iteF q
        · rw [decide_eq_false c2'] at q ⊢
          exact iteF q
      · rw [decide_eq_false c1] at q ⊢
        exact iteF q
    · exact ⟨_, rfl, y, .ref C, _, _, false, rfl, .own C, ty, kt, _, rfl, iteF q⟩
end
end K09C
namespace K09C
open PySem PySem.Spec PyProof.Rows L2 Jg
local macro_rules | `(tactic| walk_at "rd1") => `(tactic| (first
  | refine ⟨_, rfl, ?_⟩
  | refine ⟨_, _, rfl, rfl, ?_⟩
  | refine ⟨_, _, rfl, ?_⟩
  | refine ⟨rfl, ?_⟩
  | (refine ⟨show (0 : Int) < _ by omega, ?_⟩)
  | (refine ⟨Or.inl ⟨by omega, by omega⟩, ?_⟩)
  | (refine ⟨Or.inr ⟨by omega, by omega⟩, ?_⟩)
  | (refine ⟨(⟨by decide, by decide, by decide⟩ : CPow _ _), ?_⟩)
  | refine Or.inl ⟨_, rfl, ?_⟩
  | refine Or.inr ⟨_, rfl, ?_⟩
  | fail "rd"))
local macro_rules | `(tactic| walk_at "rd") => `(tactic| repeat' walk_at "rd1")
theorem StA.new {H : Hp} {p l : Addr} {o : HO} (h : StA H p) (n : H l = none) : StA (upd H l o) p := by
  obtain ⟨a, b, e, z⟩ := h
  exact ⟨a, b, by rw [upd_ne (ne_of_none e n)]; exact e, z⟩
@[irreducible] def spDr : Sp := spDraw
@[irreducible] def spCh (K : PySem.W.Frag) : Sp := spChoose K
theorem use_draw {H : Hp} {p : Addr} {n : Int} {Q : VK} {E : XK} (st : StA H p) (h1 : 0 < n) (h2 : n < 1000) (k : ∀ v H', 0 ≤ v → v < n → StA H' p → SameB p H H' → Q (.int v) H') : spDr [.ref p, .int n] H Q E := by
  unfold spDr
  have h2 := i1000 (by omega) h2
  obtain ⟨a, b, e, ha⟩ := st
  exact ⟨p, a, b, n, rfl, e, ha, h1, h2, fun v a' b' v0 v1 h => k v _ v0 v1 ⟨a', b', upd_same, h⟩ (SameB.refl _ _).mut⟩
theorem use_choose {K : PySem.W.Frag} {H : Hp} {p l : Addr} {xs : List V} {Q : VK} {E : XK} (st : StA H p) (hl : SqL K H l xs) (n : l ≠ p) (h1 : 0 < xs.length) (h2 : xs.length < 1000) (k : ∀ v H', v ∈ xs → StA H' p → SameB p H H' → Q v H') : spCh K [.ref p, .ref l] H Q E := by
  unfold spCh
  obtain ⟨a, b, e, ha⟩ := st
  exact ⟨p, .ref l, a, b, rfl, e, ha, .inl ⟨l, xs, rfl, hl, n, h1, h2, fun i v a' b' e h => k v _ (List.mem_of_getElem? e) ⟨a', b', upd_same, h⟩ (SameB.refl _ _).mut⟩⟩
theorem drI {P : Program} {w : World} {K : PySem.W.Frag} {mg : Str → Option Value} {base : Heap} {k : Nat} {x : Str} (h : Cal P w K mg base CX0 k x spDraw) : Cal P w K mg base CX0 k x spDr := by unfold spDr; exact h
theorem chI {P : Program} {w : World} {K : PySem.W.Frag} {mg : Str → Option Value} {base : Heap} {k : Nat} {x : Str} (h : Cal P w K mg base CX0 k x (spChoose K)) : Cal P w K mg base CX0 k x (spCh K) := by unfold spCh; exact h
theorem str_at {ws : List Str} {i : Nat} {x : V} (h : (ws.map V.str)[i]? = some x) : ∃ z, ws[i]? = some z ∧ x = .str z := by
  rw [List.getElem?_map] at h
  cases c : ws[i]? with
  | none => rw [c] at h; cases h
  | some z => rw [c] at h; exact ⟨z, rfl, (Option.some.inj h).symm⟩
theorem str_mem {ws : List Str} {x : V} (h : x ∈ ws.map V.str) : ∃ z ∈ ws, x = .str z := by
  obtain ⟨z, hz, e⟩ := List.mem_map.mp h
  exact ⟨z, hz, e.symm⟩
@[irreducible] def spSome (K : PySem.W.Frag) : Sp := fun vs H Q _ => ∃ (p l : Addr) (ws : List Str), vs = [.ref p, .ref l] ∧ StA H p ∧ H l = some (.lst (ws.map V.str)) ∧ ws.length ≤ 100 ∧
  ∀ (D : Addr) (us : List Str) (H' : Hp), H D = none → us.Sublist ws → H' D = some (.lst (us.map V.str)) → StA H' p → SameB p H H' → Q (.ref D) H'
theorem use_some {K : PySem.W.Frag} {H : Hp} {p l : Addr} {ws : List Str} {Q : VK} {E : XK} (st : StA H p) (el : H l = some (.lst (ws.map V.str))) (few : ws.length ≤ 100) (k : ∀ (D : Addr) (us : List Str) (H' : Hp), H D = none → us.Sublist ws → H' D = some (.lst (us.map V.str)) → StA H' p → SameB p H H' → Q (.ref D) H') : spSome K [.ref p, .ref l] H Q E := by
  unfold spSome
  exact ⟨p, l, ws, rfl, st, el, few, k⟩
def spTold (K : PySem.W.Frag) : Sp := fun vs H Q _ => ∃ (p l1 l2 l3 : Addr) (parts keys hands : List Str), vs = [.ref p, .ref l1, .ref l2, .ref l3] ∧ StA H p ∧ H l1 = some (.lst (parts.map V.str)) ∧ H l2 = some (.lst (keys.map V.str)) ∧ H l3 = some (.lst (hands.map V.str)) ∧
  parts.length ≤ 3 ∧ 0 < keys.length ∧ keys.length ≤ 50 ∧ keys.Nodup ∧ hands.length ≤ 50 ∧ ∀ q d H', TdOk parts keys hands d → H q = none → TdAt H' q d → StA H' p → SameB p H H' → Q (.ref q) H'
section
variable {P : Program} {w : World} {K : PySem.W.Frag} {mg : Str → Option Value} {base : Heap}
theorem sc_law_some : FnScope ["stream", "items", "item"] ["stream", "items"] (defScope s_law_some) := ⟨rfl, rfl, rfl, by decide +kernel, rfl, by decide +kernel, by decide +kernel⟩
theorem ok_some (D : DefK K mg "_law_some" s_law_some) (G_law_draw : Cal P w K mg base CX0 1 "_law_draw" spDr) : Cal P w K mg base CX0 2 "_law_some" (spSome K) := by
  refine D.cal sc_law_some (fun _ _ _ _ _ _ us hl => match us, hl with | [_, _], _ => rfl) (fun vs H Q E h => ?_) fun f cdv A outer s H vs Q E hr h => ?_
  · unfold spSome at h
    obtain ⟨p, l, ws, rfl, _⟩ := h; rfl
  · unfold spSome at h
    obtain ⟨p, l, ws, rfl, st, el, few, k⟩ := h
    refine ⟨_, (pss_one (ps_ret (pe_lc (own := [("item", 2)]) (g := gName 2) (by rfl) sc_law_some.nd (pi_list (pv 1)) (blkOk_by (own := [("item", 2)]) (N := ["stream", "items", "item"]) (sc := defScope s_law_some) (by decide +kernel)) (fun _ _ _ _ _ => pg_name (i := 2) sc_law_some.nd rfl (Or.inl rfl)) (fun _ _ _ _ _ => (pts_one (pt_cmpR op_eq (pe_c G_law_draw hr (by decide) rfl (pa_cons (pv 0) (pa_cons pe_int pa_nil))) pe_int (nomark _)))) (fun _ _ _ _ _ => (pv 2))))), ?_⟩
    refine ⟨_, rfl, l, rfl, ⟨_, SqL.of el⟩, fun D nD => lc_list (K := K) (a := l) (xs := ws.map V.str) (fun i H' => ∃ us : List Str, H' D = some (.lst (us.map V.str)) ∧ us.Sublist (ws.take i) ∧ StA H' p ∧ SameB p H H') ⟨[], upd_same, List.nil_sublist _, st.new nD, (SameB.refl p H).new nD⟩ (fun i H' _ ⟨us, _, _, _, s⟩ => SqL.of (s _ _ el (st.neS el))) ?_ ?_⟩
    · rintro i x H' hx ⟨us, eD, sub, st', s'⟩
      obtain ⟨z, ez, rfl⟩ : ∃ z, ws[i]? = some z ∧ x = .str z := str_at hx
      have Dp := st.ne nD
      have tk : ws.take (i + 1) = ws.take i ++ [z] := by rw [List.take_succ, ez]; rfl
      refine ⟨rfl, _, rfl, use_draw st' (by decide) (by decide) fun v H2 v0 v1 st2 s2 => ⟨rfl, _, rfl, ?_⟩⟩
      rw [ne_dec]
      have eD2 := s2 _ _ eD Dp
      have len : us.length ≤ 100 := by
        have l1 := sub.length_le
        rw [List.length_take] at l1
        omega
      by_cases c : v = 0
      · rw [decide_eq_true c]
        refine iteT ⟨_, rfl, _, eD2, by rw [List.length_map, sizeLine_eq]; omega, us ++ [z], by rw [upd_same, List.map_append]; rfl, by rw [tk]; exact sub.append_right _, ?_, ?_⟩
        · obtain ⟨a, b, e, h⟩ := st2
          exact ⟨a, b, by rw [upd_ne Dp.symm]; exact e, h⟩
        · exact fun q o e n => by rw [upd_ne (ne_of_none e nD)]; exact s2 _ _ (s' _ _ e n) n
      · rw [decide_eq_false c]
        exact iteF ⟨us, eD2, by rw [tk]; exact sub.trans (List.sublist_append_left _ _), st2, s'.trans s2⟩
    · rintro H' ⟨us, eD, sub, st', s'⟩
      rw [List.length_map, List.take_length] at sub
      exact k D us H' nD sub eD st' s'
theorem sc_law_told : FnScope ["stream", "parts", "keys", "hands", "rows", "part", "signing", "vouch", "least", "likes", "own"] ["stream", "parts", "keys", "hands"] (defScope s_law_told) := ⟨rfl, rfl, rfl, by decide +kernel, rfl, by decide +kernel, by decide +kernel⟩
theorem ok_told (D : DefK K mg "_law_told" s_law_told) (G_law_draw : Cal P w K mg base CX0 1 "_law_draw" spDr) (G_law_choose : Cal P w K mg base CX0 2 "_law_choose" (spCh K)) (G_law_some : Cal P w K mg base CX0 2 "_law_some" (spSome K)) : Cal P w K mg base CX0 3 "_law_told" (spTold K) := by
  refine D.cal sc_law_told (fun _ _ _ _ _ _ us hl => match us, hl with | [_, _, _, _], _ => rfl) (fun vs H Q E h => ?_) fun f cdv A outer s H vs Q E hr h => ?_
  · obtain ⟨p, l1, l2, l3, parts, keys, hands, rfl, _⟩ := h; rfl
  · obtain ⟨p, l1, l2, l3, parts, keys, hands, rfl, st, e1, e2, e3, np3, nk, k50, knd, h50, k⟩ := h
    refine ⟨_, (pss_cons (ps_set (i := 4) sc_law_told.nd rfl (Or.inl rfl) (pe_lst pa_nil))
      (pss_cons (ps_for PassesOwn.never rfl (pi_list (pv 1)) (pg_name (i := 5) sc_law_told.nd rfl (Or.inl rfl)) (pss_cons (ps_par (i := 9) (j := 10) (by rfl) sc_law_told.nd rfl rfl (by decide) rfl rfl (pa_cons (pe_c G_law_some hr (by decide) rfl (pa_cons (pv 0) (pa_cons (pv 2) pa_nil))) (pa_cons (pe_c G_law_choose hr (by decide) rfl (pa_cons (pv 0) (pa_cons (pv 2) pa_nil))) pa_nil)) (by rfl))
      (pss_cons (ps_if (PW.pt (pw_and (pt_cmpR (r := rIn K true) op_notIn_seq (pv 10) (pv 9) rfl) (pw_and1 (pt_cmpR op_gt (pe_c G_law_draw hr (by decide) rfl (pa_cons (pv 0) (pa_cons pe_int pa_nil))) pe_int (nomark _))))) (pss_one (ps_set (i := 9) sc_law_told.nd rfl (Or.inl rfl) (pe_op op_cat (pv 9) (pe_lst (pa_cons (pv 10) pa_nil))))) pss_nil)
      (pss_one (ps_expr (pe_bm F.plainAttrs_list F.slot_list_append F.type_list_append mt_append (pv 4) (pa_cons (pe_tup (pa_cons (pv 5) (pa_cons (pv 9) (pa_cons (pv 10) pa_nil)))) pa_nil)))))))
      (pss_cons (ps_par (i := 7) (j := 8) (by rfl) sc_law_told.nd rfl rfl (by decide) rfl rfl (pa_cons (pe_c G_law_some hr (by decide) rfl (pa_cons (pv 0) (pa_cons (pv 3) pa_nil))) (pa_cons (pe_c G_law_draw hr (by decide) rfl (pa_cons (pv 0) (pa_cons pe_int pa_nil))) pa_nil)) (by rfl))
      (pss_cons (ps_set (i := 6) sc_law_told.nd rfl (Or.inl rfl) (pe_ifExp (pt_cmpR op_gt (pe_c G_law_draw hr (by decide) rfl (pa_cons (pv 0) (pa_cons pe_int pa_nil))) pe_int (nomark _)) pe_non (pe_c G_law_some hr (by decide) rfl (pa_cons (pv 0) (pa_cons (pv 3) pa_nil)))))
      (pss_one (ps_ret (pe_tup (pa_cons (pv 4) (pa_cons (pv 7) (pa_cons (pv 8) (pa_cons (pv 6) pa_nil))))))))))), ?_⟩
    refine ⟨Nat.zero_le _, fun lr nlr => ?_⟩
    have stA := st.new (o := .lst []) nlr
    have sA := (SameB.refl p H).new (o := .lst []) nlr
    have lrp := st.ne nlr
    refine ⟨_, rfl, l1, rfl, ⟨_, SqL.of (sA _ _ e1 (st.neS e1))⟩, for_list (K := K) (a := l1) (xs := parts.map V.str) (fun i sg H' => ∃ v5 v6 v7 v8 v9 v10 : Option V, sg = [some (.ref p), some (.ref l1), some (.ref l2), some (.ref l3), some (.ref lr), v5, v6, v7, v8, v9, v10] ∧ ∃ rows : List Use, H' lr = some (.lst ((rows.map (·.t)).map V.ref)) ∧ rows.map (·.z) = parts.take i ∧ (∀ r ∈ rows, TRow H' r ∧ r.u ∈ keys ∧ r.ks.Nodup ∧ ∀ k ∈ r.ks, k ∈ keys) ∧ StA H' p ∧ SameB p H H')
      ⟨_, _, _, _, _, _, rfl, [], upd_same, rfl, (fun _ h => nomatch h), stA, sA⟩ (fun i sg H' _ ⟨_, _, _, _, _, _, _, _, _, _, _, _, s⟩ => SqL.of (s _ _ e1 (st.neS e1))) ?_ ?_⟩
    · rintro i x sg H' hx ⟨v5, v6, v7, v8, v9, v10, rfl, rows, elr, zs, rok, st', s'⟩
      obtain ⟨z, ez, rfl⟩ := str_at hx
      have k2 := s' _ _ e2 (st.neS e2)
      refine ⟨_, rfl, _, rfl, use_some st' k2 (by omega) fun la us Ha nla sub ela sta sa => ?_⟩
      have k3 := sa _ _ k2 (st'.neS k2)
      refine ⟨_, rfl, _, rfl, use_choose sta (SqL.of k3) (sta.neS k3) (by rw [List.length_map]; exact nk) (by rw [List.length_map]; omega) fun v Hb hv stb sb => ⟨_, _, rfl, ?_⟩⟩
      obtain ⟨u, hu, rfl⟩ := str_mem hv
      have sab := sa.trans sb
      have elb := sb _ _ ela (sta.neS ela)
      have lr2 := sab _ _ elr (st'.no elr refs_no)
      have nd := knd.sublist sub
      have len : us.length ≤ 50 := Nat.le_trans sub.length_le k50
      have tk : parts.take (i + 1) = parts.take i ++ [z] := by rw [List.take_succ, ez]; rfl
      have rl : rows.length ≤ 3 := by
        have l := congrArg List.length zs
        rw [List.length_map, List.length_take] at l
        omega
      -- the row is put behind the others
      have fin : ∀ (l9 : Addr) (us' : List Str) (Hc : Hp), Hc l9 = some (.lst (us'.map V.str)) → l9 ≠ lr → us'.Nodup → (∀ k ∈ us', k ∈ keys) → StA Hc p → SameB p H' Hc →
          ∀ t, Hc t = none → ∃ rows2 : List Use, upd (upd Hc t (.tup [.str z, .ref l9, .str u])) lr (.lst ((rows.map (·.t)).map V.ref ++ [.ref t])) lr = some (.lst ((rows2.map (·.t)).map V.ref)) ∧ rows2.map (·.z) = parts.take (i + 1) ∧
            (∀ r ∈ rows2, TRow (upd (upd Hc t (.tup [.str z, .ref l9, .str u])) lr (.lst ((rows.map (·.t)).map V.ref ++ [.ref t]))) r ∧ r.u ∈ keys ∧ r.ks.Nodup ∧ ∀ k ∈ r.ks, k ∈ keys) ∧ StA (upd (upd Hc t (.tup [.str z, .ref l9, .str u])) lr (.lst ((rows.map (·.t)).map V.ref ++ [.ref t]))) p ∧
            SameB p H (upd (upd Hc t (.tup [.str z, .ref l9, .str u])) lr (.lst ((rows.map (·.t)).map V.ref ++ [.ref t]))) := by
        intro l9 us' Hc e9 n9 nd' in' stc sc t nt
        have lrc := sc _ _ elr (st'.no elr refs_no)
        have tp := stc.ne nt
        have tlr : t ≠ lr := fun e => by rw [e, lrc] at nt; cases nt
        have stay : ∀ q o, Hc q = some o → q ≠ lr → upd (upd Hc t (.tup [.str z, .ref l9, .str u])) lr (.lst ((rows.map (·.t)).map V.ref ++ [.ref t])) q = some o := fun q o e n => by
          rw [upd_ne n, upd_ne (ne_of_none e nt)]; exact e
        have nlr' : ∀ {q : Addr} {ws : List Str}, Hc q = some (.lst (ws.map V.str)) → (q = lr → rows = []) := fun {q ws} e h => by
          rw [h, lrc] at e
          injection e with e; injection e with e
          cases rows with
          | nil => rfl
          | cons a b =>
            cases ws with
            | nil => cases e
            | cons c d => injection e with e1 e2; cases e1
        refine ⟨rows ++ [⟨z, t, l9, us', u⟩], by rw [upd_same, List.map_append, List.map_append]; rfl, by rw [List.map_append, zs, tk]; rfl, fun r hr => ?_, ?_, fun q o e n => ?_⟩
        · rcases List.mem_append.mp hr with hr | hr
          · obtain ⟨R, r2⟩ := rok r hr
            have R2 := R.keep st' sc
            refine ⟨⟨stay _ _ R2.tp fun e => ?_, stay _ _ R2.ls fun e => ?_⟩, r2⟩
            · have := R2.tp; rw [e, lrc] at this; cases this
            · have := nlr' R2.ls e
              rw [this] at hr; cases hr
          · obtain rfl := List.mem_singleton.mp hr
            exact ⟨⟨by rw [upd_ne tlr, upd_same], stay _ _ e9 n9⟩, hu, nd', in'⟩
        · obtain ⟨a, b, e, h⟩ := stc
          exact ⟨a, b, stay _ _ e lrp.symm, h⟩
        · refine stay _ _ (sc _ _ (s' _ _ e n) n) fun eq => ?_
          rw [eq, nlr] at e; cases e
      refine ⟨_, rfl, _, rfl, ask_notInS (SqL.of elb) ⟨_, rfl, ?_⟩⟩
      by_cases c : u ∈ us
      · rw [decide_eq_true c]
        refine iteF (iteF ?_)
        exact ⟨_, rfl, .inl ⟨rfl, _, .inl (.inl lr2)⟩, _, rfl, _, rfl, _, rfl, by show 3 ≤ sizeLine; decide, fun t nt => ⟨lr, _, _, rfl, rfl, by rw [upd_ne (ne_of_none lr2 nt)]; exact lr2, by rw [List.length_map, List.length_map, sizeLine_eq]; omega, _, _, _, _, _, _, rfl, fin la us Hb elb (ne_of_none elr nla).symm nd (fun k hk => sub.subset hk) stb sab t nt⟩⟩
      · rw [decide_eq_false c]
        refine iteT ⟨_, rfl, use_draw stb (by decide) (by decide) fun v Hc v0 v1 stc sc => ⟨_, _, rfl, rfl, _, rfl, ?_⟩⟩
        have elc := sc _ _ elb (stb.neS elb)
        have lr3 := sc _ _ lr2 (stb.no lr2 refs_no)
        have sac := sab.trans sc
        by_cases c2 : 0 < v
        · rw [decide_eq_true c2]
          refine iteT ⟨_, rfl, _, rfl, by show 1 ≤ sizeLine; decide, fun l6 n6 => ⟨la, l6, _, _, rfl, rfl, by rw [upd_ne (ne_of_none elc n6)]; exact elc, upd_same, by rw [List.length_map, sizeLine_eq]; show us.length + 1 ≤ _; omega, fun l7 n7 => ?_⟩⟩
          have s7 := same_new' (same_new (o := .lst [V.str u]) n6) (o := .lst (us.map V.str ++ [V.str u])) n7
          have e7 : upd (upd Hc l6 (.lst [V.str u])) l7 (.lst (us.map V.str ++ [V.str u])) l7 = some (.lst ((us ++ [u]).map V.str)) := by rw [upd_same, List.map_append]; rfl
          have n7c : l7 ≠ lr := fun e => by
            rw [e, upd_ne (ne_of_none lr3 n6), lr3] at n7; cases n7
          generalize upd (upd Hc l6 (.lst [V.str u])) l7 (.lst (us.map V.str ++ [V.str u])) = Hd at *
          have lr4 := s7 _ _ lr3
          have nd2 : (us ++ [u]).Nodup := by
            rw [List.nodup_append]
            exact ⟨nd, by simp, fun a ha b hb => by rw [List.mem_singleton.mp hb]; exact fun e => c (e ▸ ha)⟩
          exact ⟨_, rfl, .inl ⟨rfl, _, .inl (.inl lr4)⟩, _, rfl, _, rfl, _, rfl, by show 3 ≤ sizeLine; decide, fun t nt => ⟨lr, _, _, rfl, rfl, by rw [upd_ne (ne_of_none lr4 nt)]; exact lr4, by rw [List.length_map, List.length_map, sizeLine_eq]; omega, _, _, _, _, _, _, rfl, fin l7 (us ++ [u]) Hd e7 n7c nd2 (fun k hk => (List.mem_append.mp hk).elim (fun h => sub.subset h) fun h => by rw [List.mem_singleton.mp h]; exact hu) (stc.keep s7) (sac.trans (.of s7)) t nt⟩⟩
        · rw [decide_eq_false c2]
          refine iteF ?_
          exact ⟨_, rfl, .inl ⟨rfl, _, .inl (.inl lr3)⟩, _, rfl, _, rfl, _, rfl, by show 3 ≤ sizeLine; decide, fun t nt => ⟨lr, _, _, rfl, rfl, by rw [upd_ne (ne_of_none lr3 nt)]; exact lr3, by rw [List.length_map, List.length_map, sizeLine_eq]; omega, _, _, _, _, _, _, rfl, fin la us Hc elc (ne_of_none elr nla).symm nd (fun k hk => sub.subset hk) stc sac t nt⟩⟩
    · rintro sg H' ⟨v5, v6, v7, v8, v9, v10, rfl, rows, elr, zs, rok, st', s'⟩
      rw [List.length_map, List.take_length] at zs
      have h3 := s' _ _ e3 (st.neS e3)
      refine ⟨_, rfl, _, rfl, use_some st' h3 (by omega) fun lv vo Ha nlv subv elv sta sa => ?_⟩
      refine ⟨_, rfl, use_draw sta (by decide) (by decide) fun le Hb l0 l3' stb sb => ⟨_, _, rfl, ?_⟩⟩
      refine ⟨_, rfl, use_draw stb (by decide) (by decide) fun y Hc y0 y1 stc sc => ⟨_, _, rfl, rfl, _, rfl, ?_⟩⟩
      have sac := sa.trans (sb.trans sc)
      have sHc := s'.trans sac
      have lr3 := sac _ _ elr (st'.no elr refs_no)
      have lv3 := (sb.trans sc) _ _ elv (sta.neS elv)
      have rok3 : ∀ r ∈ rows, TRow Hc r ∧ r.u ∈ keys ∧ r.ks.Nodup ∧ ∀ k ∈ r.ks, k ∈ keys := fun r hr => ⟨(rok r hr).1.keep st' sac, (rok r hr).2⟩
      -- the end
      have fin : ∀ (Hd : Hp) (sv : V) (sg : Option (List Str)), SgAt Hd sv sg → (∀ ks, sg = some ks → ks.Sublist hands) → StA Hd p → SameB p Hc Hd → ∀ t, Hd t = none → Q (.ref t) (upd Hd t (.tup [.ref lr, .ref lv, .int le, sv])) := by
        intro Hd sv sgo sat sub std sd t nt
        have sHd := sHc.trans sd
        have tp := std.ne nt
        have sn := same_new (o := .tup [.ref lr, .ref lv, .int le, sv]) nt
        refine k t ⟨rows, vo, le, sgo⟩ _ ⟨zs, fun r hr => (rok3 r hr).2, subv, ⟨l0, l3'⟩, sub⟩ (sHd.free nt tp) ⟨⟨lr, lv, sv, upd_same, sn _ _ (sd _ _ lr3 (stc.no lr3 refs_no)), sn _ _ (sd _ _ lv3 (stc.neS lv3)), ?_⟩, fun r hr => ?_⟩ (std.new nt) (sHd.new nt)
        · cases sgo with
          | none => exact sat
          | some ks =>
            obtain ⟨l, e, h⟩ := sat
            exact ⟨l, e, sn _ _ h⟩
        · have R := (rok3 r hr).1.keep stc sd
          exact ⟨sn _ _ R.tp, sn _ _ R.ls⟩
      by_cases c : 0 < y
      · rw [decide_eq_true c]
        refine iteT ⟨_, rfl, _, rfl, _, rfl, _, rfl, by show 4 ≤ sizeLine; decide, fun t nt => fin Hc .non none rfl (fun _ h => nomatch h) stc (SameB.refl _ _) t nt⟩
      · rw [decide_eq_false c]
        have h4 := sac _ _ h3 (st'.neS h3)
        refine iteF ⟨_, rfl, _, rfl, use_some stc h4 (by omega) fun ls sk Hd nls subs els std sd => ⟨_, rfl, _, rfl, _, rfl, _, rfl, by show 4 ≤ sizeLine; decide, fun t nt => fin Hd (.ref ls) (some sk) ⟨ls, rfl, els⟩ (fun ks h => by cases h; exact subs) std sd t nt⟩⟩
end
end K09C
namespace K09C
open PySem PySem.Spec PyProof.Rows L2 Jg
local macro_rules | `(tactic| walk_at "rd1") => `(tactic| (first
  | refine ⟨_, rfl, ?_⟩
  | refine ⟨_, _, rfl, rfl, ?_⟩
  | refine ⟨_, _, rfl, ?_⟩
  | refine ⟨rfl, ?_⟩
  | (refine ⟨show (0 : Int) < _ by omega, ?_⟩)
  | (refine ⟨Or.inl ⟨by omega, by omega⟩, ?_⟩)
  | (refine ⟨Or.inr ⟨by omega, by omega⟩, ?_⟩)
  | (refine ⟨(⟨by decide, by decide, by decide⟩ : CPow _ _), ?_⟩)
  | refine Or.inl ⟨_, rfl, ?_⟩
  | refine Or.inr ⟨_, rfl, ?_⟩
  | fail "rd"))
local macro_rules | `(tactic| walk_at "rd") => `(tactic| repeat' walk_at "rd1")
theorem fil_take {ks : List Str} {i : Nat} {z : Str} (hz : ks[i]? = some z) (p : Str → Bool) : (ks.take (i + 1)).filter p = (ks.take i).filter p ++ (if p z = true then [z] else []) := by
  have tk : ks.take (i + 1) = ks.take i ++ [z] := by rw [List.take_succ, hz]; rfl
  rw [tk, List.filter_append]
  congr 1
  rw [List.filter_cons, List.filter_nil]
theorem fil_few {ks : List Str} {i : Nat} (p : Str → Bool) (few : ks.length ≤ 500) : ((((ks.take i).filter p).map V.str)).length < sizeLine := by
  rw [List.length_map, sizeLine_eq]
  have h1 := List.length_filter_le p (ks.take i)
  rw [List.length_take] at h1
  omega
def turnL (ks : List Str) (z : Str) : List Str := if z ∈ ks then ks.filter (fun k => !decide (k = z)) else ks ++ [z]
theorem Sb.turn {hs ks : List Str} {z : Str} (h : Sb hs ks) (hz : z ∈ hs) : Sb hs (turnL ks z) := by
  unfold turnL
  by_cases c : z ∈ ks
  · rw [if_pos c]
    exact ⟨h.nd.sublist List.filter_sublist, fun k hk => h.sub k (List.mem_filter.mp hk).1⟩
  · rw [if_neg c]
    refine ⟨List.nodup_append.mpr ⟨h.nd, by simp, fun a ha b hb e => c (by rw [← List.mem_singleton.mp hb, ← e]; exact ha)⟩, fun k hk => ?_⟩
    rcases List.mem_append.mp hk with hk | hk
    · exact h.sub k hk
    · rw [List.mem_singleton.mp hk]; exact hz
@[irreducible] def spTurned (K : PySem.W.Frag) : Sp := fun vs H Q _ => ∃ (l : Addr) (z : Str) (ks : List Str), vs = [.ref l, .str z] ∧ H l = some (.lst (ks.map V.str)) ∧ ks.length ≤ 100 ∧ ∀ p H', H p = none → Same H H' → H' p = some (.lst ((turnL ks z).map V.str)) → Q (.ref p) H'
theorem use_turned {K : PySem.W.Frag} {H : Hp} {l : Addr} {z : Str} {ks : List Str} {Q : VK} {E : XK} (el : H l = some (.lst (ks.map V.str))) (few : ks.length ≤ 100) (k : ∀ p H', H p = none → Same H H' → H' p = some (.lst ((turnL ks z).map V.str)) → Q (.ref p) H') : spTurned K [.ref l, .str z] H Q E := by
  unfold spTurned
  exact ⟨l, z, ks, rfl, el, few, k⟩
theorem cut_low {xs : List V} (n : Nat) (h : n ≤ xs.length) : cutV xs none (some (n : Int)) = xs.take n := by
  unfold cutV
  rw [HT.sIx_none, HT.sIx_nat, List.drop_zero, Nat.min_eq_left h, Nat.sub_zero]
theorem cut_high {xs : List V} (n : Nat) (h : n ≤ xs.length) : cutV xs (some (n : Int)) none = xs.drop n := by
  unfold cutV
  rw [HT.sIx_none, HT.sIx_nat, Nat.min_eq_left h]
  exact List.take_of_length_le (by rw [List.length_drop]; exact Nat.le_refl _)
@[irreducible] def spNext (K : PySem.W.Frag) : Sp := fun vs H Q _ => ∃ (p q l2 l3 : Addr) (d : Td) (parts keys hands : List Str), vs = [.ref p, .ref q, .ref l2, .ref l3] ∧ StA H p ∧ TdAt H q d ∧ TdG parts keys hands d ∧ H l2 = some (.lst (keys.map V.str)) ∧ H l3 = some (.lst (hands.map V.str)) ∧
  0 < parts.length ∧ parts.length ≤ 3 ∧ 0 < keys.length ∧ keys.length ≤ 50 ∧ 0 < hands.length ∧ hands.length ≤ 50 ∧ hands.Nodup ∧ ∀ q' d' H', TdG parts keys hands d' → H q' = none → TdAt H' q' d' → StA H' p → SameB p H H' → Q (.ref q') H'
section
variable {P : Program} {w : World} {K : PySem.W.Frag} {mg : Str → Option Value} {base : Heap}
theorem sc_law_turned : FnScope ["items", "item", "one"] ["items", "item"] (defScope s_law_turned) := ⟨rfl, rfl, rfl, by decide +kernel, rfl, by decide +kernel, by decide +kernel⟩
theorem ok_turned (D : DefK K mg "_law_turned" s_law_turned) : Cal P w K mg base CX0 1 "_law_turned" (spTurned K) := by
  unfold spTurned
  refine D.cal sc_law_turned (fun _ _ _ _ _ _ us hl => match us, hl with | [_, _], _ => rfl) (fun vs H Q E h => ?_) fun f cdv A outer s H vs Q E hr h => ?_
  · obtain ⟨l, z, ks, rfl, _⟩ := h; rfl
  · obtain ⟨l, z, ks, rfl, el, few, k⟩ := h
    refine ⟨_, (pss_one (ps_ret (pe_ifExp (pt_cmpR (r := rIn K false) op_in_seq (pv 1) (pv 0) rfl) (pe_lc (own := [("one", 2)]) (g := gName 2) (by rfl) sc_law_turned.nd (pi_list (pv 0)) (blkOk_by (own := [("one", 2)]) (N := ["items", "item", "one"]) (sc := defScope s_law_turned) (by decide +kernel)) (fun _ _ _ _ _ => pg_name (i := 2) sc_law_turned.nd rfl (Or.inl rfl)) (fun _ _ _ _ _ => (pts_one (pt_cmpR op_ne (pv 2) (pv 1) (nomark _)))) (fun _ _ _ _ _ => (pv 2))) (pe_op op_cat (pv 0) (pe_lst (pa_cons (pv 1) pa_nil)))))), ?_⟩
    refine ⟨_, rfl, _, rfl, l, _, rfl, .inl (SqL.of el), rfl, flat_strs, _, rfl, ?_⟩
    show if inV (V.str z) (ks.map V.str) = true then _ else _
    rw [inV_strs]
    unfold turnL at k
    by_cases c : z ∈ ks
    · rw [if_pos c] at k
      rw [decide_eq_true c]
      refine iteT ⟨_, rfl, l, rfl, ⟨_, SqL.of el⟩, fun D nD => ?_⟩
      refine lc_list (K := K) (a := l) (xs := ks.map V.str) (fun i H' => H' = upd H D (.lst (((ks.take i).filter fun k => !decide (k = z)).map V.str))) rfl (fun _ H' _ e => by rw [e]; exact SqL.of (same_new nD _ _ el)) ?_ ?_
      · rintro i x H' hx rfl
        obtain ⟨y, hy, rfl⟩ := str_at hx
        refine ⟨rfl, ⟨_, rfl, _, rfl, rfl, _, rfl, ?_⟩⟩
        by_cases c2 : y = z
        · rw [c2, decide_eq_true rfl]
          refine iteF ?_
          rw [c2] at hy
          rw [fil_take hy, decide_eq_true rfl]
          show _ = upd H D (.lst ((((ks.take i).filter fun k => !decide (k = z)) ++ []).map V.str))
          rw [List.append_nil]
        · rw [decide_eq_false (fun e => c2 (V.str.inj e))]
          refine iteT ⟨_, rfl, _, upd_same, fil_few _ (by omega), ?_⟩
          rw [upd_upd, fil_take hy, decide_eq_false c2, List.map_append]; rfl
      · intro H' e
        rw [List.length_map, List.take_length] at e
        rw [e]
        exact k D _ nD (same_new nD) upd_same
    · rw [if_neg c] at k
      rw [decide_eq_false c]
      refine iteF ⟨_, rfl, _, rfl, by show 1 ≤ sizeLine; decide, fun b nb => ?_⟩
      refine ⟨l, b, ks.map V.str, [.str z], rfl, rfl, same_new nb _ _ el, upd_same, by rw [List.length_map, sizeLine_eq]; show ks.length + 1 ≤ _; omega, fun p np => ?_⟩
      have s1 := same_new' (o := .lst (ks.map V.str ++ [.str z])) (same_new (o := .lst [.str z]) nb) np
      exact k p _ ((same_new nb).free np) s1 (by rw [upd_same, List.map_append]; rfl)
theorem sc_law_next : FnScope ["stream", "told", "keys", "hands", "rows", "vouch", "least", "signing", "at", "way", "part", "likes", "own"] ["stream", "told", "keys", "hands"] (defScope s_law_next) := ⟨rfl, rfl, rfl, by decide +kernel, rfl, by decide +kernel, by decide +kernel⟩
theorem ok_next (D : DefK K mg "_law_next" s_law_next) (T : Txt K mg) (G_law_draw : Cal P w K mg base CX0 1 "_law_draw" spDr) (G_law_choose : Cal P w K mg base CX0 2 "_law_choose" (spCh K)) (G_law_some : Cal P w K mg base CX0 2 "_law_some" (spSome K)) (G_law_turned : Cal P w K mg base CX0 1 "_law_turned" (spTurned K)) : Cal P w K mg base CX0 3 "_law_next" (spNext K) := by
  unfold spNext
  refine D.cal sc_law_next (fun _ _ _ _ _ _ us hl => match us, hl with | [_, _, _, _], _ => rfl) (fun vs H Q E h => ?_) fun f cdv A outer s H vs Q E hr h => ?_
  · obtain ⟨p, q, l2, l3, d, parts, keys, hands, rfl, _⟩ := h; rfl
  · obtain ⟨p, q, l2, l3, d, parts, keys, hands, rfl, st, tda, tdg, ek, eh, p0, p3, k0, k5, h0, h5, hn, k⟩ := h
    refine ⟨_, (pss_cons (ps_asg (pv 1) (pg_tup rfl (pgs_cons (pg_name (i := 4) sc_law_next.nd rfl (Or.inl rfl)) (pgs_cons (pg_name (i := 5) sc_law_next.nd rfl (Or.inl rfl)) (pgs_cons (pg_name (i := 6) sc_law_next.nd rfl (Or.inl rfl)) (pgs_cons (pg_name (i := 7) sc_law_next.nd rfl (Or.inl rfl)) pgs_nil))))))
      (pss_cons (ps_par (i := 8) (j := 9) (by rfl) sc_law_next.nd rfl rfl (by decide) rfl rfl (pa_cons (pe_c G_law_draw hr (by decide) rfl (pa_cons (pv 0) (pa_cons (pe_callB call_len_seq (by rfl) T.b_len (by decide +kernel) (pa_cons (pv 4) pa_nil)) pa_nil))) (pa_cons (pe_c G_law_draw hr (by decide) rfl (pa_cons (pv 0) (pa_cons pe_int pa_nil))) pa_nil)) (by rfl))
      (pss_cons (ps_asg (pe_ix (r := rIxL K) ix_list (pv 4) (pv 8) (fun _ _ => rfl)) (pg_tup rfl (pgs_cons (pg_name (i := 10) sc_law_next.nd rfl (Or.inl rfl)) (pgs_cons (pg_name (i := 11) sc_law_next.nd rfl (Or.inl rfl)) (pgs_cons (pg_name (i := 12) sc_law_next.nd rfl (Or.inl rfl)) pgs_nil)))))
      (C8.pss_cut (ps_if (pt_cmpR op_lt (pv 9) pe_int (nomark _)) (pss_one (ps_set (i := 11) sc_law_next.nd rfl (Or.inl rfl) (pe_c G_law_turned hr (by decide) rfl (pa_cons (pv 11) (pa_cons (pe_c G_law_choose hr (by decide) rfl (pa_cons (pv 0) (pa_cons (pv 2) pa_nil))) pa_nil))))) (pss_one (ps_if (pt_cmpR op_lt (pv 9) pe_int (nomark _)) (pss_one (ps_set (i := 12) sc_law_next.nd rfl (Or.inl rfl) (pe_c G_law_choose hr (by decide) rfl (pa_cons (pv 0) (pa_cons (pe_slice sl_list (pe_op op_cat (pv 11) (pv 2)) po_none (po_some (pe_callB (call_max2 rfl) (by rfl) T.b_max (by decide +kernel) (pa_cons pe_int (pa_cons (pe_callB call_len_seq (by rfl) T.b_len (by decide +kernel) (pa_cons (pv 11) pa_nil)) pa_nil))))) pa_nil))))) (pss_one (ps_if (pt_cmpR op_eq (pv 9) pe_int (nomark _)) (pss_one (ps_set (i := 5) sc_law_next.nd rfl (Or.inl rfl) (pe_c G_law_turned hr (by decide) rfl (pa_cons (pv 5) (pa_cons (pe_c G_law_choose hr (by decide) rfl (pa_cons (pv 0) (pa_cons (pv 3) pa_nil))) pa_nil))))) (pss_one (ps_if (pt_cmpR op_eq (pv 9) pe_int (nomark _)) (pss_one (ps_set (i := 7) sc_law_next.nd rfl (Or.inl rfl) (pe_c G_law_some hr (by decide) rfl (pa_cons (pv 0) (pa_cons (pv 3) pa_nil))))) (pss_one (ps_set (i := 6) sc_law_next.nd rfl (Or.inl rfl) (pe_c G_law_draw hr (by decide) rfl (pa_cons (pv 0) (pa_cons pe_int pa_nil))))))))))))
      (pss_one (ps_ret (pe_tup (pa_cons (pe_op op_cat (pe_op op_cat (pe_slice sl_list (pv 4) po_none (po_some (pv 8))) (pe_lst (pa_cons (pe_tup (pa_cons (pv 10) (pa_cons (pv 11) (pa_cons (pv 12) pa_nil)))) pa_nil))) (pe_slice sl_list (pv 4) (po_some (pe_op op_add (pv 8) pe_int)) po_none)) (pa_cons (pv 5) (pa_cons (pv 6) (pa_cons (pv 7) pa_nil))))))))))), ?_⟩
    obtain ⟨⟨lr, lv, sv, e1, e2, e3, e4⟩, rs⟩ := id tda
    have rl : d.rows.length = parts.length := by rw [← tdg.zs, List.length_map]
    refine ⟨_, rfl, q, _, rfl, SqT.of e1, rfl, _, _, rfl, _, _, rfl, _, _, rfl, _, _, rfl, rfl, ?_⟩
    refine ⟨_, rfl, _, rfl, lr, _, rfl, .inl (SqL.of e2), use_draw st (by rw [List.length_map, List.length_map, rl]; omega) (by rw [List.length_map, List.length_map, rl]; omega) fun at_ H1 a0 a1 st1 s1 => ?_⟩
    rw [List.length_map, List.length_map, rl] at a1
    refine ⟨_, rfl, use_draw st1 (by decide) (by decide) fun way H2 w0 w1 st2 s2 => ⟨_, _, rfl, ?_⟩⟩
    have s02 := s1.trans s2
    have td2 := tda.keep st s02
    obtain ⟨n, rfl⟩ : ∃ n : Nat, at_ = (n : Int) := ⟨at_.toNat, by omega⟩
    have hn3 : n < d.rows.length := by omega
    have ern : d.rows[n]? = some (d.rows[n]'hn3) := List.getElem?_eq_getElem hn3
    generalize d.rows[n]'hn3 = r at ern
    have hr2 := List.mem_of_getElem? ern
    have er2 := s02 _ _ e2 (st.no e2 refs_no)
    have R2 := (rs r hr2).keep st s02
    obtain ⟨ru, rk⟩ := tdg.rows r hr2
    have rlen := rk.len
    have vlen := tdg.vo.len
    refine ⟨_, rfl, _, rfl, lr, _, _, .ref r.t, rfl, rfl, SqL.of er2, atI_nat (by rw [List.getElem?_map, List.getElem?_map, ern]; rfl), r.t, _, rfl, SqT.of R2.tp, rfl, _, _, rfl, _, _, rfl, _, _, rfl, rfl, ?_⟩
    have ek2 := s02 _ _ ek (st.neS ek)
    have eh2 := s02 _ _ eh (st.neS eh)
    have ev2 := s02 _ _ e3 (st.neS e3)
    have sg2 := e4.keep st s02
    refine ⟨fun σ' H' => ∃ (la lv' : Addr) (ks vo : List Str) (u : Str) (le : Int) (sv' : V) (sg : Option (List Str)), σ' = [some (.ref p), some (.ref q), some (.ref l2), some (.ref l3), some (.ref lr), some (.ref lv'), some (.int le), some sv', some (.int n), some (.int way), some (.str r.z), some (.ref la), some (.str u)] ∧ StA H' p ∧ SameB p H H' ∧ H' la = some (.lst (ks.map V.str)) ∧ Sb keys ks ∧ u ∈ keys ∧ H' lv' = some (.lst (vo.map V.str)) ∧ Sb hands vo ∧ 0 ≤ le ∧ le ≤ 4 ∧ SgAt H' sv' sg ∧ ∀ ks, sg = some ks → Sb hands ks, ?_, ?_⟩
    · refine ⟨_, rfl, _, _, rfl, rfl, _, rfl, ?_⟩
      by_cases c1 : way < 3
      · refine iteTe (decide_eq_true c1) ⟨_, rfl, _, rfl, _, rfl, use_choose st2 (SqL.of ek2) (st2.neS ek2) (by rw [List.length_map]; exact k0) (by rw [List.length_map]; omega) fun v H3 hv st3 s3 => ?_⟩
        obtain ⟨z, hz, rfl⟩ := str_mem hv
        refine use_turned (s3 _ _ R2.ls (st2.neS R2.ls)) (by omega) fun la H4 nla s4 e4' => ⟨la, lv, turnL r.ks z, d.vo, r.u, d.le, sv, d.sg, rfl, st3.keep s4, s02.trans (s3.trans (SameB.of s4)), e4', rk.turn hz, ru, s4 _ _ (s3 _ _ ev2 (st2.neS ev2)), tdg.vo, tdg.le.1, tdg.le.2, sg2.keep st2 (s3.trans (SameB.of s4)), tdg.sg⟩
      refine iteFe (decide_eq_false c1) ⟨_, rfl, _, _, rfl, rfl, _, rfl, ?_⟩
      by_cases c2 : way < 5
      · refine iteTe (decide_eq_true c2) ⟨_, rfl, _, rfl, _, rfl, r.a, l2, _, _, rfl, rfl, R2.ls, ek2, by rw [List.length_map, List.length_map, sizeLine_eq]; omega, fun pc npc => ?_⟩
        have sc := same_new (o := .lst (r.ks.map V.str ++ keys.map V.str)) npc
        refine ⟨_, rfl, r.a, _, rfl, .inl (SqL.of (sc _ _ R2.ls)), _, _, rfl, _, rfl, pc, _, rfl, SqL.of upd_same, fun ps nps => ?_⟩
        have em : (if ((r.ks.map V.str).length : Int) > 1 then ((r.ks.map V.str).length : Int) else 1) = ((max 1 r.ks.length : Nat) : Int) := by
          rw [List.length_map]; split <;> omega
        rw [em, ← List.map_append, cut_low _ (by rw [List.length_map, List.length_append]; omega)]
        have sp_ := same_new' (o := .lst (((r.ks ++ keys).map V.str).take (max 1 r.ks.length))) sc nps
        rw [← List.map_append] at sp_
        refine use_choose (st2.keep sp_) (SqL.of upd_same) ((st2.keep sc).ne nps) (by rw [List.length_take, List.length_map, List.length_append]; omega) (by rw [List.length_take, List.length_map, List.length_append]; omega) fun v H3 hv st3 s3 => ?_
        obtain ⟨z, hz, rfl⟩ := str_mem (List.mem_of_mem_take hv)
        have zk : z ∈ keys := (List.mem_append.mp hz).elim (rk.sub z) id
        have s23 := (SameB.of (p := p) sp_).trans s3
        exact ⟨r.a, lv, r.ks, d.vo, z, d.le, sv, d.sg, rfl, st3, s02.trans s23, s23 _ _ R2.ls (st2.neS R2.ls), rk, zk, s23 _ _ ev2 (st2.neS ev2), tdg.vo, tdg.le.1, tdg.le.2, sg2.keep st2 s23, tdg.sg⟩
      refine iteFe (decide_eq_false c2) ⟨_, rfl, rfl, _, rfl, ?_⟩
      by_cases c3 : way = 5
      · refine iteTe (decide_eq_true (by rw [c3])) ⟨_, rfl, _, rfl, _, rfl, use_choose st2 (SqL.of eh2) (st2.neS eh2) (by rw [List.length_map]; exact h0) (by rw [List.length_map]; omega) fun v H3 hv st3 s3 => ?_⟩
        obtain ⟨z, hz, rfl⟩ := str_mem hv
        refine use_turned (s3 _ _ ev2 (st2.neS ev2)) (by omega) fun la H4 nla s4 e4' => ⟨r.a, la, r.ks, turnL d.vo z, r.u, d.le, sv, d.sg, rfl, st3.keep s4, s02.trans (s3.trans (SameB.of s4)), s4 _ _ (s3 _ _ R2.ls (st2.neS R2.ls)), rk, ru, e4', tdg.vo.turn hz, tdg.le.1, tdg.le.2, sg2.keep st2 (s3.trans (SameB.of s4)), tdg.sg⟩
      refine iteFe (decide_eq_false (fun e => c3 (V.int.inj e))) ⟨_, rfl, rfl, _, rfl, ?_⟩
      by_cases c4 : way = 6
      · refine iteTe (decide_eq_true (by rw [c4])) ⟨_, rfl, _, rfl, use_some st2 eh2 (by omega) fun D us H3 nD sub e3' st3 s3 => ⟨r.a, lv, r.ks, d.vo, r.u, d.le, .ref D, some us, rfl, st3, s02.trans s3, s3 _ _ R2.ls (st2.neS R2.ls), rk, ru, s3 _ _ ev2 (st2.neS ev2), tdg.vo, tdg.le.1, tdg.le.2, ⟨D, rfl, e3'⟩, fun ks e => by
          rw [← Option.some.inj e]; exact ⟨hn.sublist sub, fun k hk => sub.subset hk⟩⟩⟩
      refine iteFe (decide_eq_false (fun e => c4 (V.int.inj e))) ⟨_, rfl, use_draw st2 (by decide) (by decide) fun le H3 b0 b1 st3 s3 => ⟨r.a, lv, r.ks, d.vo, r.u, le, sv, d.sg, rfl, st3, s02.trans s3, s3 _ _ R2.ls (st2.neS R2.ls), rk, ru, s3 _ _ ev2 (st2.neS ev2), tdg.vo, b0, by omega, sg2.keep st2 s3, tdg.sg⟩⟩
    · rintro σ' H' ⟨la, lv', ks, vo, u, le, sv', sg, rfl, st', s', ela, skS, uK, elv, vS, le0, le4, sgA, sgS⟩
      have er' := s' _ _ e2 (st.no e2 refs_no)
      have ro' : ∀ x ∈ d.rows, TRow H' x := fun x hx => (rs x hx).keep st s'
      have ll : ((d.rows.map (·.t)).map V.ref).length = d.rows.length := by rw [List.length_map, List.length_map]
      refine ⟨_, rfl, _, rfl, n, rfl, lr, _, rfl, SqL.of er', fun pa npa => ?_⟩
      rw [cut_low n (by rw [ll]; omega)]
      have g1 := same_new (o := .lst (((d.rows.map (·.t)).map V.ref).take n)) npa
      refine ⟨_, rfl, _, rfl, _, rfl, by show 3 ≤ sizeLine; decide, fun tn ntn => ⟨by show 1 ≤ sizeLine; decide, fun pb npb => ?_⟩⟩
      have g2 := same_new (o := .tup [.str r.z, .ref la, .str u]) ntn
      have g3 := same_new (o := .lst [.ref tn]) npb
      refine ⟨pa, pb, _, _, rfl, rfl, g3 _ _ (g2 _ _ upd_same), upd_same, by rw [List.length_take, ll, sizeLine_eq]; show min n d.rows.length + 1 ≤ _; omega, fun pc npc => ?_⟩
      have g4 := same_new (o := .lst (((d.rows.map (·.t)).map V.ref).take n ++ [.ref tn])) npc
      have g14 := ((g1.trans g2).trans g3).trans g4
      refine ⟨_, rfl, _, rfl, n, 1, rfl, rfl, _, rfl, lr, _, rfl, SqL.of (g14 _ _ er'), fun pd npd => ?_⟩
      rw [show ((n : Int) + 1) = ((n + 1 : Nat) : Int) by omega, cut_high (n + 1) (by rw [ll]; omega)]
      have g5 := same_new (o := .lst (((d.rows.map (·.t)).map V.ref).drop (n + 1))) npd
      refine ⟨pc, pd, _, _, rfl, rfl, g5 _ _ upd_same, upd_same, by rw [List.length_append, List.length_take, List.length_drop, ll, sizeLine_eq]; show min n d.rows.length + 1 + _ ≤ _; omega, fun pe npe => ?_⟩
      have g6 := same_new (o := .lst (((d.rows.map (·.t)).map V.ref).take n ++ [.ref tn] ++ ((d.rows.map (·.t)).map V.ref).drop (n + 1))) npe
      refine ⟨_, rfl, _, rfl, _, rfl, by show 4 ≤ sizeLine; decide, fun q' nq' => ?_⟩
      have g7 := same_new (o := .tup [.ref pe, .ref lv', .int le, sv']) nq'
      have g17 := ((g14.trans g5).trans g6).trans g7
      have sp : d.rows = d.rows.take n ++ r :: d.rows.drop (n + 1) := by
        have z1 := List.getElem?_eq_some_iff.mp ern
        obtain ⟨hlt, ez⟩ := z1
        rw [← ez, List.getElem_cons_drop, List.take_append_drop]
      have eT : (((d.rows.take n ++ [(⟨r.z, tn, la, ks, u⟩ : Use)] ++ d.rows.drop (n + 1)).map fun x : Use => x.t).map V.ref : List V) = ((d.rows.map (·.t)).map V.ref).take n ++ [.ref tn] ++ ((d.rows.map (·.t)).map V.ref).drop (n + 1) := by
        simp only [List.map_append, List.map_take, List.map_drop, List.map_cons, List.map_nil]
      refine k q' ⟨d.rows.take n ++ [⟨r.z, tn, la, ks, u⟩] ++ d.rows.drop (n + 1), vo, le, sg⟩ _ ⟨?_, fun x hx => ?_, vS, ⟨le0, le4⟩, sgS⟩ (by
        have z0 := (((g14.trans g5).trans g6)).free nq'
        have qp : q' ≠ p := (st'.keep ((g14.trans g5).trans g6)).ne nq'
        exact s'.free z0 qp) ⟨⟨pe, lv', sv', upd_same, g7 _ _ (by rw [upd_same, eT]), g17 _ _ elv, ?_⟩, fun x hx => ?_⟩ (st'.keep g17) (s'.trans (SameB.of g17))
      · have z1 := tdg.zs
        rw [sp] at z1
        rw [← z1]
        simp only [List.map_append, List.map_cons, List.map_nil, List.append_assoc, List.cons_append, List.nil_append]
      · rcases List.mem_append.mp hx with hx | hx
        · rcases List.mem_append.mp hx with hx | hx
          · exact tdg.rows x (List.mem_of_mem_take hx)
          · rw [List.mem_singleton.mp hx]; exact ⟨uK, skS⟩
        · exact tdg.rows x (List.mem_of_mem_drop hx)
      · show SgAt _ sv' sg
        cases sg with
        | none => exact sgA
        | some ks2 =>
          obtain ⟨l0, a1, a2⟩ := sgA
          exact ⟨l0, a1, g17 _ _ a2⟩
      · have ktr : ∀ x ∈ d.rows, TRow _ x := fun x hx => ⟨g17 _ _ (ro' x hx).tp, g17 _ _ (ro' x hx).ls⟩
        rcases List.mem_append.mp hx with hx | hx
        · rcases List.mem_append.mp hx with hx | hx
          · exact ktr x (List.mem_of_mem_take hx)
          · rw [List.mem_singleton.mp hx]
            exact ⟨(((g3.trans g4).trans g5).trans (g6.trans g7)) _ _ upd_same, g17 _ _ ela⟩
        · exact ktr x (List.mem_of_mem_drop hx)
end
end K09C
namespace K09C
open PySem PySem.Spec PyProof.Rows L2 Jg
local macro_rules | `(tactic| walk_at "rd1") => `(tactic| (first
  | refine ⟨_, rfl, ?_⟩
  | refine ⟨_, _, rfl, rfl, ?_⟩
  | refine ⟨_, _, rfl, ?_⟩
  | refine ⟨rfl, ?_⟩
  | (refine ⟨show (0 : Int) < _ by omega, ?_⟩)
  | (refine ⟨Or.inl ⟨by omega, by omega⟩, ?_⟩)
  | (refine ⟨Or.inr ⟨by omega, by omega⟩, ?_⟩)
  | (refine ⟨(⟨by decide, by decide, by decide⟩ : CPow _ _), ?_⟩)
  | refine Or.inl ⟨_, rfl, ?_⟩
  | refine Or.inr ⟨_, rfl, ?_⟩
  | fail "rd"))
local macro_rules | `(tactic| walk_at "rd") => `(tactic| repeat' walk_at "rd1")
theorem hid_same {M : List Addr} {H : Hp} : Same (hid M H) H := fun q o e => (hid_get e).1
theorem hid_keepB {M : List Addr} {p : Addr} {H H' : Hp} (s : SameB p H H') : SameB p (hid M H) (hid M H') := fun q o e n => hid_in (s _ _ (hid_get e).1 n) (hid_get e).2
theorem hid_mut {f : Addr} {H : Hp} {o : HO} : hid [f] (upd H f o) = hid [f] H := funext fun q => by
  unfold hid
  by_cases c : q ∈ [f]
  · rw [if_pos c, if_pos c]
  · rw [if_neg c, if_neg c, upd_ne (fun e => c (by rw [e]; exact List.mem_singleton.mpr rfl))]
theorem TdAt.hide {H : Hp} {q f q0 : Addr} {qs : List Addr} {d : Td} (h : TdAt H q d) (rn : d.rows ≠ []) (ef : H f = some (.lst ((q0 :: qs).map V.ref))) (e0 : ∃ a b c e, H q0 = some (.tup [a, b, c, e])) : TdAt (hid [f] H) q d := by
  obtain ⟨⟨lr, lv, sv, e1, e2, e3, e4⟩, rs⟩ := h
  have tup : ∀ {x : Addr} {xs : List V}, H x = some (.tup xs) → hid [f] H x = some (.tup xs) := fun e => hid_in e fun m => by
    rw [List.mem_singleton.mp m, ef] at e; cases e
  have txt : ∀ {x : Addr} {ks : List Str}, H x = some (.lst (ks.map V.str)) → hid [f] H x = some (.lst (ks.map V.str)) := fun {x ks} e => hid_in e fun m => by
    rw [List.mem_singleton.mp m, ef] at e
    cases ks with
    | nil => cases e
    | cons a r => injection e with e; injection e with e; injection e with e1 e2; cases e1
  refine ⟨⟨lr, lv, sv, tup e1, hid_in e2 fun m => ?_, txt e3, ?_⟩, fun r hr => ⟨tup (rs r hr).tp, txt (rs r hr).ls⟩⟩
  · rw [List.mem_singleton.mp m, ef] at e2
    cases hd : d.rows with
    | nil => exact rn hd
    | cons r0 rr =>
      rw [hd] at e2
      injection e2 with e2; injection e2 with e2; injection e2 with a1 a2
      have z := (rs r0 (by rw [hd]; exact List.mem_cons_self)).tp
      obtain ⟨a, b, c, e, ee⟩ := e0
      have a1' : q0 = r0.t := V.ref.inj a1
      rw [← a1', ee] at z
      cases z
  · cases hs : d.sg with
    | none => rw [hs] at e4; exact e4
    | some ks =>
      rw [hs] at e4
      obtain ⟨l0, a1, a2⟩ := e4
      exact ⟨l0, a1, txt a2⟩
theorem TdsAt.app {parts keys hands : List Str} {H : Hp} : ∀ {qs q2 : List Addr} {ds d2 : List Td}, TdsAt parts keys hands H qs ds → TdsAt parts keys hands H q2 d2 → TdsAt parts keys hands H (qs ++ q2) (ds ++ d2)
  | _, _, _, _, .nil, h => h
  | _, _, _, _, .cons a g r, h => .cons a g (r.app h)
theorem use_told {K : PySem.W.Frag} {H : Hp} {p l1 l2 l3 : Addr} {parts keys hands : List Str} {Q : VK} {E : XK} (g : Gn p l1 l2 l3 parts keys hands H) (w : Wn parts keys hands) (k : ∀ q d H', TdG parts keys hands d → H q = none → TdAt H' q d → StA H' p → SameB p H H' → Q (.ref q) H') : spTold K [.ref p, .ref l1, .ref l2, .ref l3] H Q E :=
  ⟨p, l1, l2, l3, parts, keys, hands, rfl, g.st, g.e1, g.e2, g.e3, w.p3, w.k0, w.k5, w.kn, w.h5, fun q d H' ok nq td st s => k q d H' (ok.g w.hn) nq td st s⟩
theorem use_next {K : PySem.W.Frag} {H : Hp} {p q l1 l2 l3 : Addr} {d : Td} {parts keys hands : List Str} {Q : VK} {E : XK} (g : Gn p l1 l2 l3 parts keys hands H) (w : Wn parts keys hands) (td : TdAt H q d) (tg : TdG parts keys hands d) (k : ∀ q' d' H', TdG parts keys hands d' → H q' = none → TdAt H' q' d' → StA H' p → SameB p H H' → Q (.ref q') H') : spNext K [.ref p, .ref q, .ref l2, .ref l3] H Q E := by
  unfold spNext
  exact ⟨p, q, l2, l3, d, parts, keys, hands, rfl, g.st, td, tg, g.e2, g.e3, w.p0, w.p3, w.k0, w.k5, w.h0, w.h5, w.hn, k⟩
@[irreducible] def spToldI (K : PySem.W.Frag) : Sp := spTold K
theorem use_toldI {K : PySem.W.Frag} {H : Hp} {p l1 l2 l3 : Addr} {parts keys hands : List Str} {Q : VK} {E : XK} (g : Gn p l1 l2 l3 parts keys hands H) (w : Wn parts keys hands) (k : ∀ q d H', TdG parts keys hands d → H q = none → TdAt H' q d → StA H' p → SameB p H H' → Q (.ref q) H') : spToldI K [.ref p, .ref l1, .ref l2, .ref l3] H Q E := by
  unfold spToldI
  exact use_told g w k
theorem TdG.rn {parts keys hands : List Str} {d : Td} (g : TdG parts keys hands d) (w : Wn parts keys hands) : d.rows ≠ [] := fun e => by
  have z := g.zs
  rw [e] at z
  have := w.p0
  rw [← z] at this
  cases this
theorem TdAt.four {H : Hp} {q : Addr} {d : Td} (h : TdAt H q d) : ∃ a b c e, H q = some (.tup [a, b, c, e]) := let ⟨⟨_, _, _, e, _⟩, _⟩ := h; ⟨_, _, _, _, e⟩
@[irreducible] def spTolds (K : PySem.W.Frag) : Sp := fun vs H Q _ => ∃ (p l1 l2 l3 : Addr) (n : Nat) (parts keys hands : List Str), vs = [.ref p, .int n, .ref l1, .ref l2, .ref l3] ∧ Gn p l1 l2 l3 parts keys hands H ∧ Wn parts keys hands ∧ 1 ≤ n ∧ n ≤ 100 ∧
  ∀ f qs ds H', H f = none → f ≠ p → qs.length = n → H' f = some (.lst (qs.map V.ref)) → TdsAt parts keys hands H' qs ds → StA H' p → SameB p H H' → Q (.ref f) H'
section
variable {P : Program} {w : World} {K : PySem.W.Frag} {mg : Str → Option Value} {base : Heap}
theorem sc_law_tolds : FnScope ["stream", "count", "parts", "keys", "hands", "found", "turn", "later"] ["stream", "count", "parts", "keys", "hands"] (defScope s_law_tolds) := ⟨rfl, rfl, rfl, by decide +kernel, rfl, by decide +kernel, by decide +kernel⟩
theorem ok_tolds (D : DefK K mg "_law_tolds" s_law_tolds) (T : Txt K mg) (G_law_draw : Cal P w K mg base CX0 1 "_law_draw" spDr) (G_law_told : Cal P w K mg base CX0 3 "_law_told" (spToldI K)) (G_law_next : Cal P w K mg base CX0 3 "_law_next" (spNext K)) : Cal P w K mg base CX0 4 "_law_tolds" (spTolds K) := by
  unfold spTolds
  refine D.cal sc_law_tolds (fun _ _ _ _ _ _ us hl => match us, hl with | [_, _, _, _, _], _ => rfl) (fun vs H Q E h => ?_) fun f0 cdv A outer s H vs Q E hr h => ?_
  · obtain ⟨p, l1, l2, l3, n, parts, keys, hands, rfl, _⟩ := h; rfl
  · obtain ⟨p, l1, l2, l3, n, parts, keys, hands, rfl, g, wn, n1, n9, k⟩ := h
    refine ⟨_, (pss_cons (ps_set (i := 5) sc_law_tolds.nd rfl (Or.inl rfl) (pe_lst (pa_cons (pe_c G_law_told hr (by decide) rfl (pa_cons (pv 0) (pa_cons (pv 2) (pa_cons (pv 3) (pa_cons (pv 4) pa_nil))))) pa_nil)))
      (pss_cons (ps_for PassesOwn.never rfl (pi_range1 (by rfl) T.b_range (pa_cons (pe_op op_sub (pv 1) pe_int) pa_nil)) (pg_name (i := 6) sc_law_tolds.nd rfl (Or.inl rfl)) (pss_cons (ps_set (i := 7) sc_law_tolds.nd rfl (Or.inl rfl) (pe_c G_law_next hr (by decide) rfl (pa_cons (pv 0) (pa_cons (pe_ix (r := rIxL K) ix_list (pv 5) (pe_un un_neg pe_int) (fun _ _ => rfl)) (pa_cons (pv 3) (pa_cons (pv 4) pa_nil))))))
      (pss_one (ps_expr (pe_bm F.plainAttrs_list F.slot_list_append F.type_list_append mt_append (pv 5) (pa_cons (pe_ifExp (pt_cmpR op_gt (pe_c G_law_draw hr (by decide) rfl (pa_cons (pv 0) (pa_cons pe_int pa_nil))) pe_int (nomark _)) (pv 7) (pe_c G_law_next hr (by decide) rfl (pa_cons (pv 0) (pa_cons (pv 7) (pa_cons (pv 3) (pa_cons (pv 4) pa_nil)))))) pa_nil))))))
      (pss_one (ps_ret (pv 5))))), ?_⟩
    refine ⟨_, rfl, _, rfl, _, rfl, _, rfl, use_toldI g wn fun q0 d0 H1 g0 nq0 td0 st1 s1 => ⟨by show 1 ≤ sizeLine; decide, fun f nf => ?_⟩⟩
    have fp : f ≠ p := st1.ne nf
    have ef : upd H1 f (.lst [.ref q0]) f = some (.lst [.ref q0]) := upd_same
    have sf := same_new (o := .lst [.ref q0]) nf
    have nfH : H f = none := s1.free nf fp
    have td0f : TdAt (upd H1 f (.lst [.ref q0])) q0 d0 := td0.same sf
    have ih0 : TdsAt parts keys hands (hid [f] (upd H1 f (.lst [.ref q0]))) [q0] [d0] := .cons (td0f.hide (g0.rn wn) (qs := []) ef td0f.four) g0 .nil
    have st2 := st1.keep sf
    have s2 := s1.trans (SameB.of sf)
    generalize upd H1 f (.lst [.ref q0]) = H2 at *
    refine ⟨_, rfl, _, _, rfl, rfl, _, rfl, by omega, by omega, ?_⟩
    refine for_range (lo := 0) (fun i sg Hi => ∃ (v6 v7 : Option V) (qs : List Addr) (ds : List Td), sg = [some (.ref p), some (.int n), some (.ref l1), some (.ref l2), some (.ref l3), some (.ref f), v6, v7] ∧ StA Hi p ∧ SameB p H Hi ∧ Hi f = some (.lst ((q0 :: qs).map V.ref)) ∧ qs.length = i ∧ TdsAt parts keys hands (hid [f] Hi) (q0 :: qs) (d0 :: ds)) ⟨_, _, [], [], rfl, st2, s2, ef, rfl, ih0⟩ ?_ ?_
    · rintro i sg Hi hi ⟨v6, v7, qs, ds, rfl, sti, si, efi, ql, ih⟩
      have sth : StA (hid [f] Hi) p := by
        obtain ⟨a, b, e, h⟩ := sti
        exact ⟨a, b, hid_in e (fun m => fp (List.mem_singleton.mp m).symm), h⟩
      have four0 : ∀ {Hx : Hp}, SameB p Hi Hx → ∃ a b c e, Hx q0 = some (.tup [a, b, c, e]) := fun {Hx} s => by
        cases ih with | cons a _ _ => exact ((a.same hid_same).keep sti s).four
      have fin : ∀ (qx : Addr) (dx : Td) (Hx : Hp) (v7 : Option V), TdAt Hx qx dx → TdG parts keys hands dx → StA Hx p → SameB p Hi Hx → ∃ (v6 v7' : Option V) (qs2 : List Addr) (ds2 : List Td), ([some (.ref p), some (.int n), some (.ref l1), some (.ref l2), some (.ref l3), some (.ref f), some (.int (0 + (i : Int))), v7] : L2.St) = [some (.ref p), some (.int n), some (.ref l1), some (.ref l2), some (.ref l3), some (.ref f), v6, v7'] ∧ StA (upd Hx f (.lst ((q0 :: qs).map V.ref ++ [.ref qx]))) p ∧ SameB p H (upd Hx f (.lst ((q0 :: qs).map V.ref ++ [.ref qx]))) ∧ upd Hx f (.lst ((q0 :: qs).map V.ref ++ [.ref qx])) f = some (.lst ((q0 :: qs2).map V.ref)) ∧ qs2.length = i + 1 ∧ TdsAt parts keys hands (hid [f] (upd Hx f (.lst ((q0 :: qs).map V.ref ++ [.ref qx])))) (q0 :: qs2) (d0 :: ds2) := fun qx dx Hx v7 tx gx stx sx => by
        have efx := sx _ _ efi fp
        refine ⟨_, _, qs ++ [qx], ds ++ [dx], rfl, ?_, fun q o e nn => by rw [upd_ne (ne_of_none e nfH)]; exact sx _ _ (si _ _ e nn) nn, by rw [upd_same, List.map_cons, List.map_cons, List.map_append]; rfl, by rw [List.length_append, ql]; rfl, ?_⟩
        · obtain ⟨a, b, e, h⟩ := stx
          exact ⟨a, b, by rw [upd_ne fp.symm]; exact e, h⟩
        · rw [hid_mut]
          exact (ih.keep sth (hid_keepB sx)).app (.cons (tx.hide (gx.rn wn) efx (four0 sx)) gx .nil)
      have lt : i < (q0 :: qs).length := by rw [List.length_cons, ql]; omega
      have eq : (q0 :: qs)[i]? = some ((q0 :: qs)[i]'lt) := List.getElem?_eq_getElem lt
      have el : (q0 :: qs).map V.ref = ((q0 :: qs).take i).map V.ref ++ [V.ref ((q0 :: qs)[i]'lt)] := by
        have z := List.take_succ (l := q0 :: qs) (i := i)
        rw [eq, List.take_of_length_le (by rw [List.length_cons, ql]; omega)] at z
        conv => lhs; rw [z]
        rw [List.map_append]; rfl
      generalize (q0 :: qs)[i]'lt = qe at eq el
      obtain ⟨de, _, te, ge⟩ := ih.at_ eq
      have te' : TdAt Hi qe de := te.same hid_same
      have gi := g.keep si sti
      refine ⟨_, rfl, _, rfl, _, rfl, f, _, _, _, rfl, rfl, SqL.of efi, by rw [el]; exact atI_last _ _, _, rfl, _, rfl, use_next gi wn te' ge fun q1 d1 Ha g1 nq1 t1 sta sa => ?_⟩
      refine ⟨_, rfl, .inl ⟨rfl, _, .inl (.inl (sa _ _ efi fp))⟩, ?_⟩
      refine ⟨_, rfl, use_draw sta (by decide) (by decide) fun v Hb v0 v1 stb sb => ⟨_, _, rfl, rfl, _, rfl, ?_⟩⟩
      by_cases c : 0 < v
      · refine iteTe (decide_eq_true c) ⟨_, rfl, f, _, _, rfl, rfl, (sa.trans sb) _ _ efi fp, by rw [List.length_map, List.length_cons, ql, sizeLine_eq]; omega, fin q1 d1 Hb _ (t1.keep sta sb) g1 stb (sa.trans sb)⟩
      · have gb := gi.keep (sa.trans sb) stb
        refine iteFe (decide_eq_false c) ⟨_, rfl, _, rfl, _, rfl, _, rfl, use_next gb wn (t1.keep sta sb) g1 fun q2 d2 Hc g2 nq2 t2 stc sc => ⟨f, _, _, rfl, rfl, ((sa.trans sb).trans sc) _ _ efi fp, by rw [List.length_map, List.length_cons, ql, sizeLine_eq]; omega, fin q2 d2 Hc _ t2 g2 stc ((sa.trans sb).trans sc)⟩⟩
    · rintro sg Hi ⟨v6, v7, qs, ds, rfl, sti, si, efi, ql, ih⟩
      exact ⟨_, rfl, k f (q0 :: qs) (d0 :: ds) Hi nfH fp (by rw [List.length_cons, ql]; omega) efi (ih.same hid_same) sti si⟩
end
end K09C
namespace K09C
open PySem PySem.Spec PyProof.Rows L2 Jg
local macro_rules | `(tactic| walk_at "rd1") => `(tactic| (first
  | refine ⟨_, rfl, ?_⟩
  | refine ⟨_, _, rfl, rfl, ?_⟩
  | refine ⟨_, _, rfl, ?_⟩
  | refine ⟨rfl, ?_⟩
  | (refine ⟨show (0 : Int) < _ by omega, ?_⟩)
  | (refine ⟨Or.inl ⟨by omega, by omega⟩, ?_⟩)
  | (refine ⟨Or.inr ⟨by omega, by omega⟩, ?_⟩)
  | (refine ⟨(⟨by decide, by decide, by decide⟩ : CPow _ _), ?_⟩)
  | refine Or.inl ⟨_, rfl, ?_⟩
  | refine Or.inr ⟨_, rfl, ?_⟩
  | fail "rd"))
local macro_rules | `(tactic| walk_at "rd") => `(tactic| repeat' walk_at "rd1")
def sD (ks : List Str) : PyData := .list (ks.map PyData.str)
def sgT (d : Td) : List Str := d.sg.getD d.vo
/-- these contents are what was told -/
structure CtIs (d : Td) (c : Ct) : Prop where
  zs : c.us.map (·.z) = srtW (d.rows.map (·.z))
  us : ∀ r ∈ c.us, ∃ q ∈ d.rows, q.z = r.z ∧ q.u = r.u ∧ r.ks = srtW q.ks
  vo : c.vo = srtW d.vo
  ne : c.ne = d.le
  si : c.si = srtW (sgT d)
theorem WdL.keys {ks : List Str} {m : Nat} (h : WdL ks m) : keysB (ks.map V.str) m = true := by
  unfold keysB
  have e : (ks.map V.str).map txV = ks := by rw [List.map_map]; exact (List.map_congr_left fun _ _ => rfl).trans (List.map_id ks)
  have l := h.le
  have o : (onceW ks).length = ks.length := (once_perm h.nd).length_eq
  rw [e, List.length_map, o]
  have w : (ks.map V.str).all flagV = true := List.all_eq_true.mpr fun x hx => by
    obtain ⟨z, hz, rfl⟩ := List.mem_map.mp hx
    exact (h.wd z hz).ok.2
  rw [w, decide_eq_true rfl, decide_eq_false (by omega)]; rfl
theorem seqO_is {K : PySem.W.Frag} {H : Hp} {a : Addr} {b : Bool} {ks : List Str} (h : H a = some (seqO b ks)) : SqE K b H a (ks.map V.str) := by
  cases b with
  | true => exact SqL.of h
  | false => exact SqT.of h
theorem seqO_ty {K : PySem.W.Frag} {H : Hp} {a : Addr} {b : Bool} {ks : List Str} (h : H a = some (seqO b ks)) : TyX K H (.ref a) (.type (if b then "list" else "tuple")) := by
  cases b with
  | true => exact .base (.lst h)
  | false => exact .base (.tup h)
theorem kl_of {K : PySem.W.Frag} {H : Hp} {a : Addr} {b : Bool} {ks : List Str} {m : Nat} (h : H a = some (seqO b ks)) (w : WdL ks m) (hm : m ≤ 500) : KLOk K H ⟨a, b, ks⟩ :=
  ⟨seqO_is h, fun H' s => seqO_ty (s _ _ h), Nat.le_trans w.le hm, fun k hk => (w.wd k hk).ok.1⟩
theorem val_no : ∀ (kvs : List (Key × V)) {k : Key}, k ∉ kvs.map (·.1) → valV kvs k = none
  | [], _, _ => rfl
  | p :: r, k, h => by
    rw [List.map_cons, List.mem_cons, not_or] at h
    rw [valV_neg (fun q => h.1 q.symm)]
    exact val_no r h.2
theorem mergeK_id : ∀ (kvs acc : List (Key × V)), ((acc ++ kvs).map (·.1)).Nodup → mergeK acc kvs = acc ++ kvs
  | [], acc, _ => (List.append_nil _).symm
  | p :: r, acc, h => by
    have n : p.1 ∉ acc.map (·.1) := by
      rw [List.map_append, List.map_cons, List.nodup_append] at h
      exact fun q => h.2.2 _ q _ (List.mem_cons_self ..) rfl
    have z : putK acc p.1 p.2 = acc ++ [(p.1, p.2)] := putK_new _ (val_no acc n)
    show mergeK (putK acc p.1 p.2) r = _
    rw [z, mergeK_id r (acc ++ [(p.1, p.2)]) (by rw [List.append_assoc]; exact h), List.append_assoc]; rfl
def cpG (p : Addr × Row) : Str × List Str × Str := (p.2.z, p.2.ks, p.2.u)
theorem CpAt.up {H : Hp} {D p : Addr} {b : Bool} {r : Row} {o : HO} (h : CpAt H D p b r) : CpAt (upd H D o) D p b r :=
  ⟨by rw [upd_ne h.np]; exact h.pr, by rw [upd_ne h.nt]; exact h.tp, by rw [upd_ne h.na]; exact h.sq, h.b_, h.np, h.nt, h.na⟩
/-- what a copied row is, new from here -/
theorem cp_new {H' H4 : Hp} {D t p a : Addr} {b : Bool} {z u : Str} {ks : List Str} {oD : HO} (eD : H' D = some oD) (na : a ≠ D) (s2 : Same H' H4) (ea : H4 a = some (seqO b ks)) (nt : H4 t = none) (np : upd H4 t (.tup [.ref a, .str u]) p = none) :
    Same H' (upd (upd H4 t (.tup [.ref a, .str u])) p (.tup [.str z, .ref t])) ∧ CpAt (upd (upd H4 t (.tup [.ref a, .str u])) p (.tup [.str z, .ref t])) D p b ⟨z, t, a, b, ks, u⟩ := by
  have st := same_new (o := .tup [.ref a, .str u]) nt
  have sp_ := same_new (o := .tup [.str z, .ref t]) np
  exact ⟨(s2.trans st).trans sp_, upd_same, sp_ _ _ upd_same, sp_ _ _ (st _ _ ea), rfl, (ne_of_none (st _ _ (s2 _ _ eD)) np).symm, (ne_of_none (s2 _ _ eD) nt).symm, na⟩
/-- these rows are those that were told -/
structure RowsOf (d : Td) (rows : List Row) : Prop where
  pm : (rows.map (·.z)).Perm (d.rows.map (·.z))
  ex : ∀ r ∈ rows, ∃ q ∈ d.rows, q.z = r.z ∧ q.u = r.u ∧ r.ks.Perm q.ks
def SgIs (H : Hp) (sv : V) (o : Option (List Str)) (so : Option KL) : Prop := (sv = .non ∧ o = none ∧ so = none) ∨ ∃ l ks, sv = .ref l.a ∧ so = some l ∧ o = some ks ∧ H l.a = some (seqO l.b l.ks) ∧ l.ks.Perm ks
theorem WdL.perm {ks ls : List Str} {m : Nat} (h : WdL ks m) (p : ls.Perm ks) : WdL ls m := ⟨p.nodup_iff.mpr h.nd, by rw [p.length_eq]; exact h.le, fun k hk => h.wd k (p.mem_iff.mp hk)⟩
theorem right_of {K : PySem.W.Frag} {H : Hp} {dp : Addr} {rows : List Row} {lv : KL} {sv : V} {so : Option KL} {d : Td} (ok : TdR d) (ro : RowsOf d rows) (hd : H dp = some (.dK (dictOf rows))) (hrow : ∀ r ∈ rows, H r.t = some (.tup [.ref r.a, .str r.u]) ∧ H r.a = some (seqO r.b r.ks))
    (hl : H lv.a = some (seqO lv.b lv.ks)) (pl : lv.ks.Perm d.vo) (hs : SgIs H sv d.sg so) : Right K H (.ref dp) (.ref lv.a) (.int d.le) sv rows lv d.le so := by
  have len := ro.pm.length_eq
  rw [List.length_map, List.length_map] at len
  have wd : ∀ r ∈ rows, Wd r.z ∧ Wd r.u ∧ WdL r.ks 8 := fun r hr => by
    obtain ⟨q, hq, e1, e2, e3⟩ := ro.ex r hr
    obtain ⟨w1, w2, w3⟩ := ok.rw_ q hq
    exact ⟨e1 ▸ w1, e2 ▸ w2, w3.perm e3⟩
  refine ⟨⟨dp, rfl, hd, fun r hr => ?_⟩, by rw [len]; exact ok.n1, by rw [len]; exact ok.n3, ro.pm.nodup_iff.mpr ok.nd, List.all_eq_true.mpr fun r hr => ?_, ⟨rfl, kl_of hl (ok.vo.perm pl) (by decide), (ok.vo.perm pl).keys⟩, ⟨rfl, ok.le⟩, ?_⟩
  · obtain ⟨h1, h2⟩ := hrow r hr
    obtain ⟨w1, w2, w3⟩ := wd r hr
    have na : r.a ≠ dp := fun e => by rw [e, hd] at h2; cases hb : r.b <;> rw [hb] at h2 <;> cases h2
    refine ⟨h1, (fun e => by rw [e, hd] at h1; cases h1), na, seqO_is h2, fun H' s => seqO_ty (s _ _ h2 na), Nat.le_trans w3.le (by decide), fun k hk => (w3.wd k hk).ok.1, w1.ok.1, w2.ok.1⟩
  · obtain ⟨w1, w2, w3⟩ := wd r hr
    unfold rowB
    have k8 : keysB (r.ks.map V.str) 8 = true := w3.keys
    rw [w1.ok.2, w2.ok.2, k8]; rfl
  · rcases hs with ⟨rfl, _, rfl⟩ | ⟨l, ks, rfl, rfl, e, h, p⟩
    · exact .inl ⟨rfl, rfl⟩
    · exact .inr ⟨l, rfl, rfl, kl_of h ((ok.sg ks e).perm p) (by decide), ((ok.sg ks e).perm p).keys⟩
theorem ctis_of {H : Hp} {rows : List Row} {lv : KL} {sv : V} {so : Option KL} {d : Td} {c : Ct} (ro : RowsOf d rows) (pl : lv.ks.Perm d.vo) (hs : SgIs H sv d.sg so) (m : Made rows lv.ks d.le (sgOf lv so) c) : CtIs d c := by
  refine ⟨m.zs.trans (srtW_congr ro.pm), fun r hr => ?_, m.vo.trans (srtW_congr pl), m.ne, m.si.trans (srtW_congr ?_)⟩
  · obtain ⟨r2, h2, e1, e2, e3⟩ := m.us r hr
    obtain ⟨q, hq, f1, f2, f3⟩ := ro.ex r2 h2
    exact ⟨q, hq, f1.trans e1, f2.trans e2, e3.trans (srtW_congr f3)⟩
  · unfold sgOf sgT
    rcases hs with ⟨rfl, e, rfl⟩ | ⟨l, ks, rfl, rfl, e, h, p⟩
    · rw [e]; exact pl
    · rw [e]; exact p
theorem nodup_inr : ∀ {l : List Str}, l.Nodup → (l.map (Sum.inr : Str → Key)).Nodup
  | [], _ => List.nodup_nil
  | x :: r, h => by
    rw [List.nodup_cons] at h
    rw [List.map_cons, List.nodup_cons]
    refine ⟨fun q => ?_, nodup_inr h.2⟩
    obtain ⟨y, hy, e⟩ := List.mem_map.mp q
    exact h.1 (Sum.inr.inj e ▸ hy)
def cpKv (ps : List (Addr × Row)) : List (Key × V) := ps.map fun p => (Sum.inr p.2.z, V.ref p.2.t)
theorem paired_cp {K : PySem.W.Frag} {H : Hp} {D : Addr} {b : Bool} : ∀ {ps : List (Addr × Row)}, (∀ p ∈ ps, CpAt H D p.1 b p.2) → Paired (fun (p : Addr) (kv : Key × V) => SqT K H p [kV kv.1, kv.2]) (ps.map (·.1)) (cpKv ps)
  | [], _ => .nil
  | p :: r, h => .cons (SqT.of (h p (List.mem_cons_self ..)).pr) (paired_cp fun q hq => h q (List.mem_cons_of_mem _ hq))
theorem cp_merge {ps : List (Addr × Row)} (nd : (ps.map (·.2.z)).Nodup) : mergeK [] (cpKv ps) = dictOf (ps.map (·.2)) := by
  have e : ((([] : List (Key × V)) ++ cpKv ps).map (·.1)) = (ps.map (·.2.z)).map Sum.inr := by
    unfold cpKv
    rw [List.nil_append, List.map_map, List.map_map]; rfl
  rw [mergeK_id (cpKv ps) [] (by rw [e]; exact nodup_inr nd), List.nil_append]
  unfold cpKv dictOf
  rw [List.map_map]; rfl
theorem sg_is {H H' : Hp} {sv : V} {o : Option (List Str)} (h : SgAt H sv o) (s : Same H H') : ∃ so, SgIs H' sv o so := by
  cases o with
  | none => exact ⟨none, .inl ⟨h, rfl, rfl⟩⟩
  | some ks =>
    obtain ⟨l, e, h⟩ := h
    exact ⟨some ⟨l, true, ks⟩, .inr ⟨_, ks, e, rfl, rfl, s _ _ h, .refl _⟩⟩
def spCon (C : Addr) : Sp := fun vs H Q _ => ∃ q d, vs = [.ref q] ∧ TdAt H q d ∧ TdR d ∧ ∀ z c H', CAt (fun q => H q = none) C H' z c → CtOk c → CtIs d c → Same H H' → Q (.ref z) H'
section
variable {P : Program} {w : World} {K : PySem.W.Frag} {mg : Str → Option Value} {base : Heap} {C CI : Addr}
theorem sc_law_contents : FnScope ["told", "rows", "vouch", "least", "signing", "part", "likes", "own"] ["told"] (defScope s_law_contents) := ⟨rfl, rfl, rfl, by decide +kernel, rfl, by decide +kernel, by decide +kernel⟩
theorem ok_con (D : DefK K mg "_law_contents" s_law_contents) (T : Txt K mg) (J : CTx K mg C) (M_Contents : MakN P w K mg base (L2.CX P w) 7 "Contents" C 2 ["needed", "signers"] (fun vs zs => vs ++ zs) (spCInit P w K C CI)) : Cal P w K mg base CX0 9 "_law_contents" (spCon C) := by
  refine D.cal sc_law_contents (fun _ _ _ _ _ _ us hl => match us, hl with | [_], _ => rfl) (fun vs H Q E h => ?_) fun f0 cdv A outer s H vs Q E hr h => ?_
  · obtain ⟨q, d, rfl, _⟩ := h; rfl
  · obtain ⟨q, d, rfl, td, ok, k⟩ := h
    refine ⟨_, (pss_cons (ps_asg (pv 0) (pg_tup rfl (pgs_cons (pg_name (i := 1) sc_law_contents.nd rfl (Or.inl rfl)) (pgs_cons (pg_name (i := 2) sc_law_contents.nd rfl (Or.inl rfl)) (pgs_cons (pg_name (i := 3) sc_law_contents.nd rfl (Or.inl rfl)) (pgs_cons (pg_name (i := 4) sc_law_contents.nd rfl (Or.inl rfl)) pgs_nil))))))
      (pss_one (ps_ret (pe_mkNS M_Contents takes0 hr (by decide) rfl (pa_cons (pe_callTy (call_dictP rfl) (by rfl) T.b_dict (by decide +kernel) (pa_cons (pe_lc (own := [("part", 5), ("likes", 6), ("own", 7)]) (g := gTup K 3 (gCons (gName 5) (gCons (gName 6) (gCons (gName 7) gNil)))) (by rfl) sc_law_contents.nd (pi_list (pv 1)) (blkOk_by (own := [("part", 5), ("likes", 6), ("own", 7)]) (N := ["told", "rows", "vouch", "least", "signing", "part", "likes", "own"]) (sc := defScope s_law_contents) (by decide +kernel)) (fun _ _ _ _ _ => pg_tup rfl (pgs_cons (pg_name (i := 5) sc_law_contents.nd rfl (Or.inl rfl)) (pgs_cons (pg_name (i := 6) sc_law_contents.nd rfl (Or.inl rfl)) (pgs_cons (pg_name (i := 7) sc_law_contents.nd rfl (Or.inl rfl)) pgs_nil)))) (fun _ _ _ _ _ => pts_nil) (fun _ _ _ _ _ => (pe_tup (pa_cons (pv 5) (pa_cons (pe_tup (pa_cons (pv 6) (pa_cons (pv 7) pa_nil))) pa_nil))))) pa_nil)) (pa_cons (pv 2) pa_nil)) (pk_cons (pv 3) (pk_cons (pv 4) pk_nil)))))), ?_⟩
    obtain ⟨⟨lr, lv, sv, e1, e2, e3, e4⟩, rs⟩ := id td
    refine ⟨_, rfl, q, _, rfl, SqT.of e1, rfl, _, _, rfl, _, _, rfl, _, _, rfl, _, _, rfl, rfl, ?_⟩
    refine ⟨_, rfl, lr, rfl, ⟨_, SqL.of e2⟩, fun D nD => ?_⟩
    have few := ok.n3
    refine lc_list (K := K) (a := lr) (xs := (d.rows.map (·.t)).map V.ref) (fun i H' => ∃ ps : List (Addr × Row), H' D = some (.lst ((ps.map (·.1)).map V.ref)) ∧ ps.map cpG = (d.rows.take i).map tri ∧ (∀ p ∈ ps, CpAt H' D p.1 true p.2) ∧ Same H H') ⟨[], upd_same, rfl, (fun _ h => nomatch h), same_new nD⟩ (fun i H' _ ⟨_, _, _, _, s⟩ => SqL.of (s _ _ e2)) ?_ ?_
    · rintro i x H' hx ⟨ps, eD, eP, cP, sP⟩
      obtain ⟨r, er, rfl⟩ : ∃ r, d.rows[i]? = some r ∧ x = .ref r.t := by
        rw [List.getElem?_map, List.getElem?_map] at hx
        cases c : d.rows[i]? with
        | none => rw [c] at hx; cases hx
        | some r => rw [c] at hx; exact ⟨r, rfl, (Option.some.inj hx).symm⟩
      have R := rs r (List.mem_of_getElem? er)
      have tk : d.rows.take (i + 1) = d.rows.take i ++ [r] := by rw [List.take_succ, er]; rfl
      refine ⟨r.t, _, rfl, SqT.of (sP _ _ R.tp), rfl, _, _, rfl, _, _, rfl, _, _, rfl, rfl, rfl, yes_if ?_⟩
      refine ⟨_, rfl, _, rfl, _, rfl, by show 2 ≤ sizeLine; decide, fun t nt => ⟨by show 2 ≤ sizeLine; decide, fun p np => ?_⟩⟩
      obtain ⟨n1, n2⟩ := cp_new eD (ne_of_none R.ls nD) (.refl H') (show H' r.a = some (seqO true r.ks) from sP _ _ R.ls) nt np
      generalize upd (upd H' t (.tup [.ref r.a, .str r.u])) p (.tup [.str r.z, .ref t]) = H4 at *
      have pl : ps.length = i := by
        have z1 := congrArg List.length eP
        have lt : i < d.rows.length := (List.getElem?_eq_some_iff.mp er).1
        rw [List.length_map, List.length_map, List.length_take] at z1
        omega
      have lt : i < d.rows.length := (List.getElem?_eq_some_iff.mp er).1
      refine ⟨_, n1 _ _ eD, by rw [List.length_map, List.length_map, pl, sizeLine_eq]; omega, ps ++ [(p, ⟨r.z, t, r.a, true, r.ks, r.u⟩)], by rw [upd_same, List.map_append, List.map_append]; rfl, by rw [List.map_append, eP, tk, List.map_append]; rfl, fun q hq => ?_, fun q o e => by rw [upd_ne (ne_of_none e nD)]; exact n1 _ _ (sP _ _ e)⟩
      rcases List.mem_append.mp hq with hq | hq
      · exact ((cP q hq).keep n1).up
      · obtain rfl := List.mem_singleton.mp hq
        exact n2.up
    · rintro H' ⟨ps, eD, eP, cP, sP⟩
      rw [show ((d.rows.map (·.t)).map V.ref).length = d.rows.length by rw [List.length_map, List.length_map], List.take_length] at eP
      have zs : (ps.map (·.2)).map (·.z) = d.rows.map (·.z) := by
        have z1 := congrArg (List.map (·.1)) eP
        rw [List.map_map, List.map_map] at z1
        rw [List.map_map]; exact z1
      have nd : (ps.map (·.2.z)).Nodup := by
        have z2 : ps.map (·.2.z) = d.rows.map (·.z) := by rw [← zs, List.map_map]; rfl
        rw [z2]; exact ok.nd
      refine ⟨D, ps.map (·.1), cpKv ps, rfl, SqL.of eD, paired_cp cP, fun dd ndd => ?_⟩
      rw [cp_merge nd]
      have g1 := same_new (o := .dK (dictOf (ps.map (·.2)))) ndd
      have ed : upd H' dd (.dK (dictOf (ps.map (·.2)))) dd = some (.dK (dictOf (ps.map (·.2)))) := upd_same
      have sF := sP.trans g1
      have cF := fun p hp => (cP p hp).keep g1
      generalize upd H' dd (.dK (dictOf (ps.map (·.2)))) = HF at *
      obtain ⟨so, hs⟩ := sg_is e4 sF
      have ro : RowsOf d (ps.map (·.2)) := by
        refine ⟨by rw [zs], fun x hx => ?_⟩
        obtain ⟨pp, hp, rfl⟩ := List.mem_map.mp hx
        have z1 : cpG pp ∈ d.rows.map tri := eP ▸ List.mem_map_of_mem hp
        obtain ⟨q0, hq, e⟩ := List.mem_map.mp z1
        have a1 : q0.z = pp.2.z := congrArg (·.1) e
        have a2 : q0.ks = pp.2.ks := congrArg (·.2.1) e
        have a3 : q0.u = pp.2.u := congrArg (·.2.2) e
        exact ⟨q0, hq, a1, a3, by rw [a2]⟩
      refine ⟨_, rfl, _, rfl, _, rfl, rfl, rfl, fun z dz nz ndz nez => ?_⟩
      have RR := right_of (K := K) (H := HF) (lv := ⟨lv, true, d.vo⟩) ok ro ed (fun x hx => by
        obtain ⟨pp, hp, rfl⟩ := List.mem_map.mp hx
        have C0 := cF pp hp
        exact ⟨C0.tp, by rw [C0.b_]; exact C0.sq⟩) (show HF lv = some (seqO true d.vo) from sF _ _ e3) (List.Perm.refl _) hs
      refine ⟨z, dz, _, _, _, _, HF, rfl, upd_same, same_new' (same_new ndz) (by rw [upd_ne (Ne.symm nez)]; exact nz), nz, .inl ⟨_, _, _, _, RR, fun H2 c ca m ok2 s2 => ⟨rfl, k z c H2 (ca.wider fun q hq => sF.free hq) ok2 (ctis_of ro (List.Perm.refl _) hs m) (sF.trans s2)⟩⟩⟩
end
end K09C
namespace Jg
open PySem PySem.Spec PyProof.Rows L2
/-- o[i] = v by an own __setitem__ -/
def gSubO (C : Addr) (sp : Sp) (E : L2.St → XK) (to ti : TE) : TG := fun v σ H Q => to σ H fun o H1 => ti σ H1 fun i H2 => ∃ a dx fs, o = .ref a ∧ H2 a = some (.ins C dx fs) ∧ sp [.ref a, i, v] H2 (fun w H3 => w = .non ∧ Q σ H3) (E σ)
section
variable {X : Cx} {W : WX} {k j : Nat} {C : Addr} {sp : Sp} {o i e : Expr} {to ti ta tb : TE} {pos : Pos}
theorem pg_subO (c : Met X.prog X.w X.K X.mg X.base (L2.CX X.prog X.w) k C "__setitem__" sp) (ns : PySem.W.noSeq X.K C = true) (tk : Takes X W) (hr : Room j X.A) (hk : k ≤ j) (ho : PE X o to) (hi : PE X i ti)
    (ha : ∀ v, assign (.Subscript o i pos) X.env v = (do
      let ov ← holding [v] (eval o X.env)
      let iv ← holding [v, ov] (eval i X.env)
      standAt pos
      holding [v, ov, iv] (setItem ov iv v)
      release [v, ov, iv] []) := by intro _; rfl) : PG X (.Subscript o i pos) (gSubO C sp (WE W) to ti) := by
  obtain ⟨f, fd, ps, F, at_, fn, kp, b⟩ := c.ex
  refine ⟨fun pins s σ H v u Q I r h => ?_⟩
  rw [ha]
  refine wpAny_bind (wpAny_holding (thn (ho.run pins s σ H _ I h) fun ov s1 ⟨x, H1, I1, r1, q1⟩ => ?_))
  refine wpAny_bind (wpAny_holding (thn (hi.run pins s1 σ H1 _ I1 q1) fun iv s2 ⟨y, H2, I2, r2, a, dx, fs, ex, ea, q2⟩ => ?_))
  subst ex
  obtain rfl : ov = Value.ref a := r1
  obtain ⟨mA, J0, _⟩ := ins_get I2.hok ea
  obtain ⟨od, J, _⟩ := J0.look
  obtain ⟨m, hF⟩ := I2.fr
  refine wpAny_bind (wpAny_standAt (wpAny_bind (wpAny_holding (PySem.W.ksp_setItem hF I2.ok.mod.kin J ns at_ fn ?_))))
  refine wpAny_mono (run_fnS (E := WE W) (us := [.ref a, iv, u]) (vs := [.ref a, y, v]) F (hr.mono hk) b (passAt tk σ) I2 (.cons rfl (.cons r2 (.cons r .nil))) q2) (fun w s3 ⟨x3, H3, I3, r3, e3, q3⟩ => ?_) fun _ _ z => z
  exact wpAny_release ⟨σ, H3, I3, q3⟩
/-- o[i] by an own __getitem__ -/
def rIxO (C : Addr) (sp : Sp) (E : XK) : R2 := fun x y H Q => ∃ a dx fs, x = .ref a ∧ H a = some (.ins C dx fs) ∧ sp [.ref a, y] H Q E
def OwnIx (b : Expr) : Prop := ∀ o i, subscripted b true o i = runValue (.builtin "lifetime.subscript" ⟨[o, i], []⟩)
theorem pe_ixO (c : Met X.prog X.w X.K X.mg X.base (L2.CX X.prog X.w) k C "__getitem__" sp) (fi : ∀ f, PySem.W.findIn X.K (.ref C) "__getitem__" = some (some (.ref f)) → PySem.W.fnIn X.K f = true) (tk : Takes X W) (hr : Room j X.A) (hk : k + 1 ≤ j) (ha : PE X o ta) (hb : PE X e tb) (hs : OwnIx e) :
    PE X (.Subscript o e pos) (tOpS (fun σ => rIxO C sp (WE W σ)) ta tb) := by
  obtain ⟨f, fd, ps, F, at_, fn, kp, b⟩ := c.ex
  refine ⟨fun pins s σ H Q I h => ?_⟩
  refine Subscript_ (binT (R := fun x y H2 => rIxO C sp (WE W σ) x y H2 Q) ha hb I h fun v u s2 x y H2 I2 rx ry q => ?_)
  obtain ⟨a, dx, fs, rfl, ea, q⟩ := q
  cases rx
  obtain ⟨mA, J0, _⟩ := ins_get I2.hok ea
  obtain ⟨od, J, _⟩ := J0.look
  obtain ⟨m, hF⟩ := I2.fr
  have rv : Vals [V.ref a, y] [Value.ref a, u] := .cons rfl (.cons ry .nil)
  have ln : [Value.ref a, u].length = ps.length := rv.length.symm.trans (F.len _ _ _ _ q)
  have bd := b s2 [Value.ref a, u] I2.kIn (by rw [List.append_nil]; exact ln)
  rw [List.append_nil] at bd
  have rm : Room (k + 1) X.A := hr.mono hk
  have run := F.run X.A.in1 X.stack s2 H2 ⟨[Value.ref a, u], []⟩ _ _ _ (WE W σ) rm.in1 I2.env0.in1 bd rv q
  refine PySem.W.sub_K hF I2.ok.mod.kin J at_ (fi f at_) fn (wpAny_call (codeAny_mono run fun o s3 z => ?_)) (hs _ _)
  match o, z with
  | .error err, z => exact passAt tk σ pins _ _ err s3 I2 z
  | .ok (.ret w), z => exact I2.after z
/-- len(o) by an own __len__ that raises nothing -/
def rLenO (C : Addr) (sp : Sp) (E : XK) : List V → Hp → VK → Prop := fun xs H Q => ∃ a dx fs, xs = [.ref a] ∧ H a = some (.ins C dx fs) ∧ sp [.ref a] H (fun v H' => ∃ n : Int, v = .int n ∧ 0 ≤ n ∧ n < 2 ^ 63 ∧ Q (.int n) H') E
theorem call_lenO (c : Met X.prog X.w X.K X.mg X.base CX0 k C "__len__" sp) (hr : Room j X.A) (hk : k + 1 ≤ j) : CallR X (.builtin "len") (rLenO C sp E0) := by
  intro pins s σ H xs us Q I r h
  obtain ⟨a, dx, fs, rfl, ea, q⟩ := h
  obtain rfl := Vals.ref1 r
  obtain ⟨f, fd, ps, F, ini, fn, kp, b⟩ := c.ex
  obtain ⟨mA, J, _⟩ := ins_get I.hok ea
  obtain ⟨od, J, _⟩ := J.look
  obtain ⟨m, hF⟩ := I.fr
  have rv : Vals [V.ref a] [Value.ref a] := .cons rfl .nil
  have ln : [Value.ref a].length = ps.length := rv.length.symm.trans (F.len _ _ _ _ q)
  have bd := b s [Value.ref a] I.kIn (by rw [List.append_nil]; exact ln)
  rw [List.append_nil] at bd
  have rm : Room (k + 1) X.A := hr.mono hk
  have run := F.run X.A.in1 X.stack s H ⟨[Value.ref a], []⟩ _ _ _ E0 rm.in1 I.env0.in1 bd rv q
  refine PySem.W.len_K hF I.ok.mod.kin J ini fn (wpAny_call (codeAny_mono run fun o s2 z => ?_))
  match o, z with
  | .error err, z => exact z.elim
  | .ok (.ret u), z =>
    obtain ⟨v, H2, J3, rv3, n, rfl, h0, h1, q3⟩ := I.after z
    obtain ⟨t, rfl⟩ := (show ∃ t, u = Value.int n t from rv3)
    exact ⟨⟨h0, h1⟩, .int n, H2, J3.tok _, ⟨_, rfl⟩, q3⟩
end
end Jg
namespace Jg
open PySem PySem.Spec PyProof.Rows L2 PySem.W
end Jg
namespace Jg
open PySem PySem.Spec PyProof.Rows L2
end Jg
namespace K09F
open PySem PySem.Spec PyProof.Rows L2 Jg
local macro_rules | `(tactic| walk_at "rd1") => `(tactic| (first
  | refine ⟨_, rfl, ?_⟩
  | refine ⟨_, _, rfl, rfl, ?_⟩
  | refine ⟨_, _, rfl, ?_⟩
  | refine ⟨rfl, ?_⟩
  | (refine ⟨show (0 : Int) < _ by omega, ?_⟩)
  | (refine ⟨Or.inl ⟨by omega, by omega⟩, ?_⟩)
  | (refine ⟨Or.inr ⟨by omega, by omega⟩, ?_⟩)
  | (refine ⟨(⟨by decide, by decide, by decide⟩ : CPow _ _), ?_⟩)
  | refine Or.inl ⟨_, rfl, ?_⟩
  | refine Or.inr ⟨_, rfl, ?_⟩
  | fail "rd"))
local macro_rules | `(tactic| walk_at "rd") => `(tactic| repeat' walk_at "rd1")
section
variable {K : PySem.W.Frag} {mg : Str → Option Value} {C : Addr}
end
theorem kii {K : PySem.W.Frag} : kit K (.type "int") "int" true := kit_ty (by decide +kernel)
theorem kib {K : PySem.W.Frag} : kit K (.type "int") "bool" false := kit_ty (by decide +kernel)
def gG (y : V) : Prop := ∃ g : Int, y = .int g ∧ 1 ≤ g ∧ g ≤ L
def spIsInt (K : PySem.W.Frag) : Sp := fun vs H Q _ => ∃ x t b1 b2, vs = [x] ∧ TyX K H x t ∧ kit K t "int" b1 ∧ (b1 = true → kit K t "bool" b2) ∧ Q (.bl (b1 && !b2)) H
def spBtwn (K : PySem.W.Frag) : Sp := fun vs H Q _ => ∃ y lo hi, vs = [y, .int lo, .int hi] ∧ ((∃ i, y = .int i ∧ Q (.bl (decide (lo ≤ i) && decide (i ≤ hi))) H) ∨ (NoInt K H y ∧ Q (.bl false) H))
end K09F
namespace K09F
open PySem PySem.Spec PyProof.Rows L2 Jg
local macro_rules | `(tactic| walk_at "rd1") => `(tactic| (first
  | refine ⟨_, rfl, ?_⟩
  | refine ⟨_, _, rfl, rfl, ?_⟩
  | refine ⟨_, _, rfl, ?_⟩
  | refine ⟨rfl, ?_⟩
  | (refine ⟨show (0 : Int) < _ by omega, ?_⟩)
  | (refine ⟨Or.inl ⟨by omega, by omega⟩, ?_⟩)
  | (refine ⟨Or.inr ⟨by omega, by omega⟩, ?_⟩)
  | (refine ⟨(⟨by decide, by decide, by decide⟩ : CPow _ _), ?_⟩)
  | refine Or.inl ⟨_, rfl, ?_⟩
  | refine Or.inr ⟨_, rfl, ?_⟩
  | fail "rd"))
local macro_rules | `(tactic| walk_at "rd") => `(tactic| repeat' walk_at "rd1")
theorem shaped_str {x : Str} (ok : PyData.strOk x = true) : SeqAt.shaped (.str x) = true := by
  have e1 : (PyData.str x).canLay0 = true := by simp [PyData.canLay0, ok]
  have e2 : (PyData.str x).depth ≤ 64 := by first | (simp [PyData.depth]; done) | (show 0 ≤ 64; decide)
  exact Bool.and_eq_true_iff.mpr ⟨e1, decide_eq_true e2⟩
end K09F
namespace K09F
open PySem PySem.Spec PyProof.Rows L2 Jg
local macro_rules | `(tactic| walk_at "rd1") => `(tactic| (first
  | refine ⟨_, rfl, ?_⟩
  | refine ⟨_, _, rfl, rfl, ?_⟩
  | refine ⟨_, _, rfl, ?_⟩
  | refine ⟨rfl, ?_⟩
  | (refine ⟨show (0 : Int) < _ by omega, ?_⟩)
  | (refine ⟨Or.inl ⟨by omega, by omega⟩, ?_⟩)
  | (refine ⟨Or.inr ⟨by omega, by omega⟩, ?_⟩)
  | (refine ⟨(⟨by decide, by decide, by decide⟩ : CPow _ _), ?_⟩)
  | refine Or.inl ⟨_, rfl, ?_⟩
  | refine Or.inr ⟨_, rfl, ?_⟩
  | fail "rd"))
local macro_rules | `(tactic| walk_at "rd") => `(tactic| repeat' walk_at "rd1")
theorem SameB.refl (p : Addr) (H : Hp) : SameB p H H := fun _ _ e _ => e
theorem SameB.new {p l : Addr} {H H1 : Hp} {o : HO} (a : SameB p H H1) (h : H1 l = none) : SameB p H (upd H1 l o) := fun q u e n => by
  have z := a q u e n
  rw [upd_ne (ne_of_none z h)]
  exact z
theorem SameB.mut {p : Addr} {H H1 : Hp} {o : HO} (a : SameB p H H1) : SameB p H (upd H1 p o) := fun q u e n => by
  rw [upd_ne n]
  exact a q u e n
theorem SameB.free {p l : Addr} {H H' : Hp} (s : SameB p H H') (n : H' l = none) (np : l ≠ p) : H l = none := by
  cases e : H l with
  | none => rfl
  | some o =>
    have z := s l o e np
    rw [n] at z; cases z
end K09F
namespace K09F
open PySem PySem.Spec PyProof.Rows L2 Jg
local macro_rules | `(tactic| walk_at "rd1") => `(tactic| (first
  | refine ⟨_, rfl, ?_⟩
  | refine ⟨_, _, rfl, rfl, ?_⟩
  | refine ⟨_, _, rfl, ?_⟩
  | refine ⟨rfl, ?_⟩
  | (refine ⟨show (0 : Int) < _ by omega, ?_⟩)
  | (refine ⟨Or.inl ⟨by omega, by omega⟩, ?_⟩)
  | (refine ⟨Or.inr ⟨by omega, by omega⟩, ?_⟩)
  | (refine ⟨(⟨by decide, by decide, by decide⟩ : CPow _ _), ?_⟩)
  | refine Or.inl ⟨_, rfl, ?_⟩
  | refine Or.inr ⟨_, rfl, ?_⟩
  | fail "rd"))
local macro_rules | `(tactic| walk_at "rd") => `(tactic| repeat' walk_at "rd1")
end K09F
namespace K09F
open PySem PySem.Spec PyProof.Rows L2 Jg
local macro_rules | `(tactic| walk_at "rd1") => `(tactic| (first
  | refine ⟨_, rfl, ?_⟩
  | refine ⟨_, _, rfl, rfl, ?_⟩
  | refine ⟨_, _, rfl, ?_⟩
  | refine ⟨rfl, ?_⟩
  | (refine ⟨show (0 : Int) < _ by omega, ?_⟩)
  | (refine ⟨Or.inl ⟨by omega, by omega⟩, ?_⟩)
  | (refine ⟨Or.inr ⟨by omega, by omega⟩, ?_⟩)
  | (refine ⟨(⟨by decide, by decide, by decide⟩ : CPow _ _), ?_⟩)
  | refine Or.inl ⟨_, rfl, ?_⟩
  | refine Or.inr ⟨_, rfl, ?_⟩
  | fail "rd"))
local macro_rules | `(tactic| walk_at "rd") => `(tactic| repeat' walk_at "rd1")
section
variable {P : Program} {w : World} {K : PySem.W.Frag} {mg : Str → Option Value} {base : Heap} {C CI CU CO F : Addr}
theorem sc_LimitExceeded_init : FnScope ["self", "limit"] ["self", "limit"] (defScope s_LimitExceeded_init) := ⟨rfl, rfl, rfl, by decide +kernel, rfl, by decide +kernel, by decide +kernel⟩
theorem ok_linit (D : ExnQ K mg "LimitExceeded" CO "LimitExceeded.__init__" s_LimitExceeded_init "limit") : ExnB P w K mg base 1 "LimitExceeded" CO (spX CO "limit") := by
  obtain ⟨fI, fd, F, a, ty⟩ := D.ini
  refine ⟨D.mg_, D.ovr, fI, fd, _, F.ok sc_LimitExceeded_init (fun vs H Q E h => ?_) (fun cdv A outer s H vs Q E hr h => ?_), a, ty, F.binds (fun _ _ _ _ _ _ us hl => match us, hl with | [_, _], _ => rfl)⟩
  · obtain ⟨a, y, rfl, _⟩ := h; rfl
  · obtain ⟨a, y, rfl, ha, k⟩ := h
    exact ⟨_, (pss_one (ps_keep (pv 0) (pv 1))), _, rfl, _, rfl, a, CO, rfl, D.ovr, D.no, ha, fun dx n e => k dx n e⟩
end
end K09F
namespace K09F
open PySem PySem.Spec PyProof.Rows L2 Jg
local macro_rules | `(tactic| walk_at "rd1") => `(tactic| (first
  | refine ⟨_, rfl, ?_⟩
  | refine ⟨_, _, rfl, rfl, ?_⟩
  | refine ⟨_, _, rfl, ?_⟩
  | refine ⟨rfl, ?_⟩
  | (refine ⟨show (0 : Int) < _ by omega, ?_⟩)
  | (refine ⟨Or.inl ⟨by omega, by omega⟩, ?_⟩)
  | (refine ⟨Or.inr ⟨by omega, by omega⟩, ?_⟩)
  | (refine ⟨(⟨by decide, by decide, by decide⟩ : CPow _ _), ?_⟩)
  | refine Or.inl ⟨_, rfl, ?_⟩
  | refine Or.inr ⟨_, rfl, ?_⟩
  | fail "rd"))
local macro_rules | `(tactic| walk_at "rd") => `(tactic| repeat' walk_at "rd1")
end K09F
namespace K09F
open PySem PySem.Spec PyProof.Rows L2 Jg
local macro_rules | `(tactic| walk_at "rd1") => `(tactic| (first
  | refine ⟨_, rfl, ?_⟩
  | refine ⟨_, _, rfl, rfl, ?_⟩
  | refine ⟨_, _, rfl, ?_⟩
  | refine ⟨rfl, ?_⟩
  | (refine ⟨show (0 : Int) < _ by omega, ?_⟩)
  | (refine ⟨Or.inl ⟨by omega, by omega⟩, ?_⟩)
  | (refine ⟨Or.inr ⟨by omega, by omega⟩, ?_⟩)
  | (refine ⟨(⟨by decide, by decide, by decide⟩ : CPow _ _), ?_⟩)
  | refine Or.inl ⟨_, rfl, ?_⟩
  | refine Or.inr ⟨_, rfl, ?_⟩
  | fail "rd"))
local macro_rules | `(tactic| walk_at "rd") => `(tactic| repeat' walk_at "rd1")
section
variable {P : Program} {w : World} {K : PySem.W.Frag} {mg : Str → Option Value} {base : Heap} {C CA CU CM CO FC : Addr}
theorem sc_InvalidMoment_init : FnScope ["self", "value"] ["self", "value"] (defScope s_InvalidMoment_init) := ⟨rfl, rfl, rfl, by decide +kernel, rfl, by decide +kernel, by decide +kernel⟩
theorem ok_minit (D : ExnQ K mg "InvalidMoment" CM "InvalidMoment.__init__" s_InvalidMoment_init "value") : ExnB P w K mg base 1 "InvalidMoment" CM (spX CM "value") := by
  obtain ⟨fI, fd, F, a, ty⟩ := D.ini
  refine ⟨D.mg_, D.ovr, fI, fd, _, F.ok sc_InvalidMoment_init (fun vs H Q E h => ?_) (fun cdv A outer s H vs Q E hr h => ?_), a, ty, F.binds (fun _ _ _ _ _ _ us hl => match us, hl with | [_, _], _ => rfl)⟩
  · obtain ⟨a, y, rfl, _⟩ := h; rfl
  · obtain ⟨a, y, rfl, ha, k⟩ := h
    exact ⟨_, (pss_one (ps_keep (pv 0) (pv 1))), _, rfl, _, rfl, a, CM, rfl, D.ovr, D.no, ha, fun dx n e => k dx n e⟩
end
end K09F
namespace K09R
open PySem PySem.Spec PyProof.Rows L2 Jg
local macro_rules | `(tactic| walk_at "rd1") => `(tactic| (first
  | refine ⟨_, rfl, ?_⟩
  | refine ⟨_, _, rfl, rfl, ?_⟩
  | refine ⟨_, _, rfl, ?_⟩
  | refine ⟨rfl, ?_⟩
  | (refine ⟨show (0 : Int) < _ by omega, ?_⟩)
  | (refine ⟨Or.inl ⟨by omega, by omega⟩, ?_⟩)
  | (refine ⟨Or.inr ⟨by omega, by omega⟩, ?_⟩)
  | (refine ⟨(⟨by decide, by decide, by decide⟩ : CPow _ _), ?_⟩)
  | refine Or.inl ⟨_, rfl, ?_⟩
  | refine Or.inr ⟨_, rfl, ?_⟩
  | fail "rd"))
local macro_rules | `(tactic| walk_at "rd") => `(tactic| repeat' walk_at "rd1")
section
variable {K : PySem.W.Frag} {mg : Str → Option Value} {C : Addr}
end
end K09R
namespace Jg
open PySem PySem.Spec PyProof.Rows L2
section
variable {P : Program} {w : World} {K : PySem.W.Frag} {mg : Str → Option Value} {base : Heap} {k : Nat} {x : Str} {st : Stmt} {c : Addr} {N ps : List Str} {sp : Sp}
/-- .. walked where no repr is under way -/
theorem DefC.calG (D : DefC K mg x st c) (S : FnScope N ps (defScope st)) (b : BindOk x x st ps) (len : ∀ vs H Q E, sp vs H Q E → vs.length = ps.length)
    (hb : ∀ (f : Addr) (A : Around) (outer : List Env) (s : Shared) (H : Hp) (vs : List V) (Q : VK) (E : XK), (cxOf CX0 P w K mg base N x (defScope st) f (.ref c) A outer s H E).nox.A.guards = some [] → Room k (A.deeper (envOfC x (defScope st) s.heap.objs.size f (.ref c))) → sp vs H Q E →
      ∃ t, PSs (cxOf CX0 P w K mg base N x (defScope st) f (.ref c) A outer s H E).nox (defBody st) t ∧ t { nx := fun _ H' => Q .non H', rt := Q } (start N vs) H) : CalG P w K mg base CX0 (k + 1) x sp := by
  obtain ⟨f, oc, od, kV, doc, pm, an, ct, osl, lk, hcd, kp, hm⟩ := D.ex
  refine ⟨f, _, ps, ⟨len, fun A g outer s H args us vs Q E hr e0 hb2 r hsp => ?_⟩, hm, kp, .all (b kV doc pm an (.ref c) ct)⟩
  have inHeap : K.In s.heap := e0.mod.kin.keeps fun b o e => (e0.bs b o e).1
  have kinds : ∀ y ∈ ps.zip us, (defScope st).names.lookup y.1 = some .local ∨ ((defScope st).names.lookup y.1 = some .cell ∧ ((cellsFrom (s.heap.objs.size + 1) (defScope st).names []).lookup y.1).isSome = true) := fun y hy =>
    (S.par y.1 (List.of_mem_zip hy).1).imp id fun q => ⟨q, PySem.W.cellsFrom_some _ _ _ (.inl q)⟩
  refine codeAny_call_function hr.depth (inHeap _ _ lk) rfl S.co S.gen rfl (PySem.W.codeRec_of inHeap hcd) (hb2 _ _ _ _ ?_)
  refine wpAny_newFunctionEnv_cells S.kind kinds fun env he s1 y => ?_
  subst he
  obtain ⟨t, ht, hq⟩ := hb f A outer s H vs Q E (guards_deeper g) (hr.deeper _) hsp
  have I := inv_start (CX := CX0) (E := E) S hr.hd e0 (len _ _ _ _ hsp) r y
  refine ⟨(e0.mod.nolimit.keeps fun b o e => (e0.bs b o e).1).keeps y.toInCall.keep, codeAny_func (wpAny_mono (ht.nox.run [] s1 (start N vs) H _ I hq) (fun fl s' hs => ?_) fun _ _ hs => hs)⟩
  match fl, hs with
  | .ret u, ⟨v, _, H', J, rv, q⟩ => exact ⟨v, H', J.os, J.bare, J.base, J.hok, rv, q⟩
  | .next, ⟨_, H', J, q⟩ => exact ⟨.non, H', J.os, J.bare, J.base, J.hok, rfl, q⟩
  | .brk, ⟨_, _, _, q⟩ => exact False.elim q
  | .cont, ⟨_, _, _, q⟩ => exact False.elim q
end
end Jg
namespace K09
open PySem PySem.Spec PyProof.Rows L2 Jg
local macro_rules | `(tactic| walk_at "rd1") => `(tactic| (first
  | refine ⟨_, rfl, ?_⟩
  | refine ⟨_, _, rfl, rfl, ?_⟩
  | refine ⟨_, _, rfl, ?_⟩
  | refine ⟨rfl, ?_⟩
  | (refine ⟨show (0 : Int) < _ by omega, ?_⟩)
  | (refine ⟨Or.inl ⟨by omega, by omega⟩, ?_⟩)
  | (refine ⟨Or.inr ⟨by omega, by omega⟩, ?_⟩)
  | (refine ⟨(⟨by decide, by decide, by decide⟩ : CPow _ _), ?_⟩)
  | refine Or.inl ⟨_, rfl, ?_⟩
  | refine Or.inr ⟨_, rfl, ?_⟩
  | fail "rd"))
local macro_rules | `(tactic| walk_at "rd") => `(tactic| repeat' walk_at "rd1")
theorem same_new {H : Hp} {p : Addr} {o : HO} (h : H p = none) : Same H (upd H p o) := fun b u e => by rw [upd_ne (ne_of_none e h)]; exact e
theorem same_new' {H H1 : Hp} {p : Addr} {o : HO} (s : Same H H1) (h : H1 p = none) : Same H (upd H1 p o) := s.trans (same_new h)
theorem same_mut {H H1 : Hp} {p : Addr} {o : HO} (s : Same H H1) (h : H p = none) : Same H (upd H1 p o) := fun b u e => by rw [upd_ne (ne_of_none e h)]; exact s b u e
def spBtwn (K : PySem.W.Frag) : Sp := K09F.spBtwn K
def spMom (K : PySem.W.Frag) : Sp := fun vs H Q _ => ∃ y, vs = [y] ∧ ((∃ i, y = .int i ∧ Q (.bl (decide (0 ≤ i) && decide (i ≤ LM))) H) ∨ (K09F.NoInt K H y ∧ Q (.bl false) H))
def spIdx (K : PySem.W.Frag) : Sp := fun vs H Q _ => ∃ y n, vs = [y, .int n] ∧ ((∃ i, y = .int i ∧ Q (.bl (decide (0 ≤ i) && decide (i ≤ n - 1))) H) ∨ (K09F.NoInt K H y ∧ Q (.bl false) H))
def spTup2 (K : PySem.W.Frag) : Sp := fun vs H Q _ => ∃ t xs n, vs = [.ref t, .int n] ∧ H t = some (.tup xs) ∧ Q (.bl (decide ((xs.length : Int) = n))) H
def spIsEd (C : Addr) : Sp := fun vs H Q _ => ∃ e, vs = [.ref e.t] ∧ EdAt C H e ∧ 0 ≤ e.m ∧ e.m ≤ LM ∧ Q (.bl true) H
section
variable {P : Program} {w : World} {K : PySem.W.Frag} {mg : Str → Option Value} {base : Heap} {C : Addr}
theorem sc_is_moment : FnScope ["value"] ["value"] (defScope s_is_moment) := ⟨rfl, rfl, rfl, by decide +kernel, rfl, by decide +kernel, by decide +kernel⟩
theorem ok_is_moment (D : DefK K mg "is_moment" s_is_moment) (T : TxP K mg) (G_is_between : Cal P w K mg base CX0 2 "is_between" (spBtwn K)) : Cal P w K mg base CX0 3 "is_moment" (spMom K) := by
  refine D.cal sc_is_moment (fun _ _ _ _ _ _ us hl => match us, hl with | [_], _ => rfl) (fun vs H Q E h => ?_) fun f cdv A outer s H vs Q E hr h => ?_
  · obtain ⟨y, rfl, _⟩ := h; rfl
  · obtain ⟨y, rfl, h⟩ := h
    refine ⟨_, (pss_one (ps_ret (pe_c G_is_between hr (by decide) rfl (pa_cons (pv 0) (pa_cons pe_int (pa_cons (pe_gc rfl T.g_LAST_MOMENT) pa_nil)))))), ?_⟩
    exact ⟨_, rfl, y, 0, LM, rfl, h⟩
theorem sc_is_index : FnScope ["value", "many"] ["value", "many"] (defScope s_is_index) := ⟨rfl, rfl, rfl, by decide +kernel, rfl, by decide +kernel, by decide +kernel⟩
theorem ok_is_index (D : DefK K mg "is_index" s_is_index) (G_is_between : Cal P w K mg base CX0 2 "is_between" (spBtwn K)) : Cal P w K mg base CX0 3 "is_index" (spIdx K) := by
  refine D.cal sc_is_index (fun _ _ _ _ _ _ us hl => match us, hl with | [_, _], _ => rfl) (fun vs H Q E h => ?_) fun f cdv A outer s H vs Q E hr h => ?_
  · obtain ⟨y, n, rfl, _⟩ := h; rfl
  · obtain ⟨y, n, rfl, h⟩ := h
    refine ⟨_, (pss_one (ps_ret (pe_c G_is_between hr (by decide) rfl (pa_cons (pv 0) (pa_cons pe_int (pa_cons (pe_op op_sub (pv 1) pe_int) pa_nil)))))), ?_⟩
    exact ⟨_, rfl, _, rfl, _, _, rfl, rfl, y, 0, n - 1, rfl, h⟩
theorem sc_is_tuple_of : FnScope ["value", "many"] ["value", "many"] (defScope s_is_tuple_of) := ⟨rfl, rfl, rfl, by decide +kernel, rfl, by decide +kernel, by decide +kernel⟩
theorem ok_is_tuple_of (D : DefK K mg "is_tuple_of" s_is_tuple_of) (T : TxP K mg) : Cal P w K mg base CX0 1 "is_tuple_of" (spTup2 K) := by
  refine D.cal sc_is_tuple_of (fun _ _ _ _ _ _ us hl => match us, hl with | [_, _], _ => rfl) (fun vs H Q E h => ?_) fun f cdv A outer s H vs Q E hr h => ?_
  · obtain ⟨t, xs, n, rfl, _⟩ := h; rfl
  · obtain ⟨t, xs, n, rfl, et, q⟩ := h
    refine ⟨_, (pss_one (ps_ret (pe_and (pe_callB call_isi (by rfl) T.b_isinstance (by decide +kernel) (pa_cons (pv 0) (pa_cons (pe_ty (n := "tuple") (by rfl) T.b_tuple (by decide +kernel)) pa_nil))) (pe_one (pe_cmpR op_eq (pe_callB call_len_seq (by rfl) T.b_len (by decide +kernel) (pa_cons (pv 0) pa_nil)) (pv 1) (nomark _)))))), ?_⟩
    refine ⟨_, rfl, .ref t, .ty "tuple", _, _, true, rfl, .ty "tuple", .base (.tup et), kit_ty (by decide +kernel), true, rfl, iteT ?_⟩
    refine ⟨_, rfl, t, xs, rfl, .inr (SqT.of et), _, rfl, rfl, ?_⟩
    have e : decide (V.int (xs.length : Int) = V.int n) = decide ((xs.length : Int) = n) := decide_eq_decide.mpr ⟨fun z => V.int.inj z, fun z => by rw [z]⟩
    rw [e]; exact q
theorem sc_is_edition : FnScope ["value"] ["value"] (defScope s_is_edition) := ⟨rfl, rfl, rfl, by decide +kernel, rfl, by decide +kernel, by decide +kernel⟩
theorem ok_is_edition (D : DefK K mg "_is_edition" s_is_edition) (T : TxP K mg) (J : K09C.CTx K mg C) (G_is_tuple_of : Cal P w K mg base CX0 1 "is_tuple_of" (spTup2 K)) (G_is_moment : Cal P w K mg base CX0 3 "is_moment" (spMom K)) : Cal P w K mg base CX0 4 "_is_edition" (spIsEd C) := by
  refine D.cal sc_is_edition (fun _ _ _ _ _ _ us hl => match us, hl with | [_], _ => rfl) (fun vs H Q E h => ?_) fun f cdv A outer s H vs Q E hr h => ?_
  · obtain ⟨e, rfl, _⟩ := h; rfl
  · obtain ⟨e, rfl, at_, m0, m1, q⟩ := h
    refine ⟨_, (pss_one (ps_ret (pe_and (pe_c G_is_tuple_of hr (by decide) rfl (pa_cons (pv 0) (pa_cons pe_int pa_nil))) (pe_and (pe_c G_is_moment hr (by decide) rfl (pa_cons (pe_ix (r := rIxT K) ix_tup (pv 0) pe_int (fun _ _ => rfl)) pa_nil)) (pe_one (pe_callB call_isi (by rfl) T.b_isinstance (by decide +kernel) (pa_cons (pe_ix (r := rIxT K) ix_tup (pv 0) pe_int (fun _ _ => rfl)) (pa_cons (pe_glob (v := .ref C) rfl J.cC rfl) pa_nil)))))))), ?_⟩
    have sq : SqT K H e.t [.int e.m, .ref e.x] := SqT.of at_.tp
    obtain ⟨⟨dx, d, v, sg, ex, _⟩, _⟩ := id at_.ct
    refine ⟨_, rfl, e.t, _, 2, rfl, at_.tp, true, rfl, iteT ?_⟩
    refine ⟨_, rfl, e.t, _, 0, _, rfl, rfl, sq, atI_nat (j := 0) rfl, .int e.m, rfl, .inl ⟨e.m, rfl, true, by rw [decide_eq_true m0, decide_eq_true m1]; rfl, iteT ?_⟩⟩
    exact ⟨_, rfl, e.t, _, 1, _, rfl, rfl, sq, atI_nat (j := 1) rfl, .ref e.x, .ref C, _, _, true, rfl, .own C, J.ty ex, J.kCC, q⟩
end
end K09
namespace K09
open PySem PySem.Spec PyProof.Rows L2 Jg
local macro_rules | `(tactic| walk_at "rd1") => `(tactic| (first
  | refine ⟨_, rfl, ?_⟩
  | refine ⟨_, _, rfl, rfl, ?_⟩
  | refine ⟨_, _, rfl, ?_⟩
  | refine ⟨rfl, ?_⟩
  | (refine ⟨show (0 : Int) < _ by omega, ?_⟩)
  | (refine ⟨Or.inl ⟨by omega, by omega⟩, ?_⟩)
  | (refine ⟨Or.inr ⟨by omega, by omega⟩, ?_⟩)
  | (refine ⟨(⟨by decide, by decide, by decide⟩ : CPow _ _), ?_⟩)
  | refine Or.inl ⟨_, rfl, ?_⟩
  | refine Or.inr ⟨_, rfl, ?_⟩
  | fail "rd"))
local macro_rules | `(tactic| walk_at "rd") => `(tactic| repeat' walk_at "rd1")
def spFw (C : Addr) : Sp := fun vs H Q _ => ∃ l es, vs = [.ref l] ∧ H l = some (.lst (es.map Ed.v)) ∧ (∀ e ∈ es, EdAt C H e) ∧ EdsOk es ∧ ∀ H', Same H H' → Q .non H'
theorem ed_at {es : List Ed} {i : Nat} {x : V} (h : (es.map Ed.v)[i]? = some x) : ∃ e, es[i]? = some e ∧ x = .ref e.t := by
  rw [List.getElem?_map] at h
  cases c : es[i]? with
  | none => rw [c] at h; cases h
  | some e => rw [c] at h; exact ⟨e, rfl, (Option.some.inj h).symm⟩
theorem ed_get {es : List Ed} {i : Nat} {e : Ed} (h : es[i]? = some e) : (es.map Ed.v)[i]? = some (.ref e.t) := by rw [List.getElem?_map, h]; rfl
theorem okW_role {c : K09C.Ct} (ok : K09C.CtOk c) : ∀ z ∈ c.us.map (·.z), okW z := fun z hz => by
  obtain ⟨r, hr, rfl⟩ := List.mem_map.mp hz
  have w := (ok.us r hr).2.1
  unfold K09C.wordB at w
  exact okW_ascii (Bool.and_eq_true_iff.mp (Bool.and_eq_true_iff.mp w).2).1
theorem get_e (l : Addr) : ([(("_editions" : Str), V.ref l)] : List (Str × V)).lookup ("_editions" : Str) = some (.ref l) := by
  have e : ((("_editions" : Str)) == ("_editions" : Str)) = true := by decide +kernel
  simp only [List.lookup, e]
theorem get_eno (l : Addr) {m : Str} (h : (m == ("_editions" : Str)) = false) : ([(("_editions" : Str), V.ref l)] : List (Str × V)).lookup m = none := by
  simp only [List.lookup, h]
theorem for_enum {K : PySem.W.Frag} {a : Addr} {xs : List V} {g : TG} {tb : TS} {D : Ends} {σ : L2.St} {H : Hp} {i : Nat} (hi : σ[i]? = some (some (.ref a))) (ea : H a = some (.lst xs)) (Pv : Nat → L2.St → Hp → Prop) (h0 : Pv 0 σ H) (hq : ∀ i σ H', Pv i σ H' → Same H H')
    (hs : ∀ (j : Nat) (x : V) (T : Addr) (σ : L2.St) (H : Hp), xs[j]? = some x → Pv j σ H → H T = none → g (.ref T) σ (upd H T (.tup [.int (j : Nat), x])) fun σ2 H2 => tb { D with nx := Pv (j + 1), ct := Pv (j + 1), bk := D.nx } σ2 H2) (hd : ∀ σ H, Pv xs.length σ H → D.nx σ H) :
    tFor (iEnum K (tCons (tVar i) tNil)) g tb D σ H := by
  unfold tFor iEnum
  exact ⟨_, hi, a, xs, rfl, SqL.of ea, for_it walk_enum Pv h0 (fun i σ H' _ p => SqL.of (hq _ _ _ p _ _ ea)) (fun j x σ H' H2 lt p y => by
    obtain ⟨T, kk, vv, rfl, nT, rfl, ek, ev⟩ := y
    cases Option.some.inj ek
    exact hs j vv T σ H' ev p nT) hd⟩
section
variable {P : Program} {w : World} {K : PySem.W.Frag} {mg : Str → Option Value} {base : Heap} {C PC CU : Addr}
theorem sc_first_wrong : FnScope ["editions", "number", "edition"] ["editions"] (defScope s_first_wrong) := ⟨rfl, rfl, rfl, by decide +kernel, rfl, by decide +kernel, by decide +kernel⟩
theorem ok_first_wrong (D : DefK K mg "_first_wrong" s_first_wrong) (T : TxP K mg) (J : K09C.CTx K mg C) (G_is_edition : Cal P w K mg base CX0 4 "_is_edition" (spIsEd C)) (P_roles : Prp P w K mg base CX0 1 C "roles" (K09C.spLst C fun c => c.us.map (·.z))) : Cal P w K mg base CX0 5 "_first_wrong" (spFw C) := by
  refine D.cal sc_first_wrong (fun _ _ _ _ _ _ us hl => match us, hl with | [_], _ => rfl) (fun vs H Q E h => ?_) fun f cdv A outer s H vs Q E hr h => ?_
  · obtain ⟨l, es, rfl, _⟩ := h; rfl
  · obtain ⟨l, es, rfl, el, at_, ok, k⟩ := h
    have hu : (A.deeper (envOfC "_first_wrong" (defScope s_first_wrong) s.heap.objs.size f cdv)).units + 64 < cLine := hr.units
    refine ⟨_, (pss_cons (ps_for PassesOwn.never rfl (pi_enum (by rfl) T.b_enumerate (pa_cons (pv 0) pa_nil)) (pg_tup rfl (pgs_cons (pg_name (i := 1) sc_first_wrong.nd rfl (Or.inl rfl)) (pgs_cons (pg_name (i := 2) sc_first_wrong.nd rfl (Or.inl rfl)) pgs_nil))) (pss_cons (ps_if (pt_not (pt_val (pe_c G_is_edition hr (by decide) rfl (pa_cons (pv 2) pa_nil)))) (pss_one (ps_ret (pv 1))) pss_nil)
      (C8.pss_cut (ps_if (PW.pt (pw_and (pt_cmpR op_gt (pv 1) pe_int (nomark _)) (pw_and1 (pt_cmpR op_le (pe_ix (r := rIxT K) ix_tup (pv 2) pe_int (fun _ _ => rfl)) (pe_ix (r := rIxT K) ix_tup (pe_ix (r := rIxL K) ix_list (pv 0) (pe_op op_sub (pv 1) pe_int) (fun _ _ => rfl)) pe_int (fun _ _ => rfl)) (nomark _))))) (pss_one (ps_ret (pv 1))) pss_nil)
      (pss_one (ps_if (pt_cmpR (op_neD hu) (pe_p P_roles J.cl hr (by decide) (pe_ix (r := rIxT K) ix_tup (pv 2) pe_int (fun _ _ => rfl))) (pe_p P_roles J.cl hr (by decide) (pe_ix (r := rIxT K) ix_tup (pe_ix (r := rIxL K) ix_list (pv 0) pe_int (fun _ _ => rfl)) pe_int (fun _ _ => rfl))) (nomark _)) (pss_one (ps_ret (pv 1))) pss_nil)))))
      (pss_one (ps_ret pe_non))), ?_⟩
    refine for_enum (a := l) (xs := es.map Ed.v) rfl el (fun j σ' H' => ∃ v1 v2, σ' = [some (.ref l), v1, v2] ∧ Same H H') ⟨_, _, rfl, .refl _⟩ (fun j σ' H' ⟨_, _, _, s⟩ => s) ?_ ?_
    · rintro j y T0 σ' H' hy ⟨v1, v2, rfl, s'⟩ nT
      obtain ⟨e, ee, rfl⟩ := ed_at hy
      have he := List.mem_of_getElem? ee
      have sT := same_new' (o := .tup [.int (j : Nat), .ref e.t]) s' nT
      refine ⟨T0, _, rfl, SqT.of upd_same, rfl, _, _, rfl, _, _, rfl, rfl, ?_⟩
      generalize upd H' T0 (.tup [.int (j : Nat), .ref e.t]) = H1 at *
      have ae := (at_ e he).same sT
      have sq : SqT K H1 e.t [.int e.m, .ref e.x] := SqT.of ae.tp
      have sl : SqL K H1 l (es.map Ed.v) := SqL.of (sT _ _ el)
      refine ⟨_, rfl, e, rfl, ae, (ok.mo e he).1, (ok.mo e he).2, _, rfl, iteF ?_⟩
      obtain ⟨e0, ee0⟩ : ∃ e0, es[0]? = some e0 := by
        have := ok.n1
        match es, this with
        | e0 :: _, _ => exact ⟨e0, rfl⟩
      have he0 := List.mem_of_getElem? ee0
      have a0 := (at_ e0 he0).same sT
      have sq0 : SqT K H1 e0.t [.int e0.m, .ref e0.x] := SqT.of a0.tp
      obtain ⟨⟨dx, d, v, sg, ex, _⟩, _⟩ := id ae.ct
      obtain ⟨⟨dx0, d0, v0, sg0, ex0, _⟩, _⟩ := id a0.ct
      have few : e.c.us.length ≤ 3 := ae.ok.n3
      refine ⟨fun σ' H2 => σ' = [some (.ref l), some (.int (j : Nat)), some (.ref e.t)] ∧ H2 = H1, ?_, ?_⟩
      · refine ⟨_, rfl, _, _, rfl, rfl, _, rfl, ?_⟩
        by_cases c0 : (0 : Int) < (j : Nat)
        · rw [decide_eq_true c0]
          refine iteT ?_
          obtain ⟨i0, rfl⟩ : ∃ i0, j = i0 + 1 := ⟨j - 1, by omega⟩
          have ej : (((i0 + 1 : Nat) : Int) - 1) = ((i0 : Nat) : Int) := by omega
          obtain ⟨b, eb⟩ : ∃ b, es[i0]? = some b := ⟨_, List.getElem?_eq_getElem (by have := (List.getElem?_eq_some_iff.mp ee).1; omega)⟩
          have ab := (at_ b (List.mem_of_getElem? eb)).same sT
          have lt := ok.inc i0 b e eb ee
          refine ⟨_, rfl, e.t, _, 0, _, rfl, rfl, sq, atI_nat (j := 0) rfl, _, rfl, _, rfl, _, _, rfl, rfl, l, _, _, .ref b.t, rfl, rfl, sl, ?_, b.t, _, 0, _, rfl, rfl, SqT.of ab.tp, atI_nat (j := 0) rfl, _, _, rfl, rfl, _, rfl, ?_⟩
          · rw [ej]
            exact atI_nat (j := i0) (ed_get eb)
          · rw [decide_eq_false (by omega)]
            exact iteF ⟨rfl, rfl⟩
        · rw [decide_eq_false c0]
          exact iteF (iteF ⟨rfl, rfl⟩)
      · rintro _ _ ⟨rfl, rfl⟩
        refine ⟨_, rfl, e.t, _, 1, _, rfl, rfl, sq, atI_nat (j := 1) rfl, e.x, dx, _, rfl, ex, e.x, e.c, _, rfl, ae.ct, fun p1 n1 => ?_⟩
        have s1 := same_new (o := .lst ((e.c.us.map (·.z)).map V.str)) n1
        refine ⟨_, rfl, _, _, 0, _, rfl, rfl, s1.seq sl, atI_nat (j := 0) (ed_get ee0), e0.t, _, 1, _, rfl, rfl, SqT.of (s1 _ _ a0.tp), atI_nat (j := 1) rfl, e0.x, dx0, _, rfl, s1 _ _ ex0, e0.x, e0.c, _, rfl, a0.ct.same s1, fun p2 n2 => ?_⟩
        have s2 := same_new (o := .lst ((e0.c.us.map (·.z)).map V.str)) n2
        refine ask_neS (xs := e.c.us.map (·.z)) (ys := e0.c.us.map (·.z)) (SqL.of (s2 _ _ upd_same)) (SqL.of upd_same) (okW_role ae.ok) (okW_role a0.ok) ⟨_, rfl, iteFe (by rw [decide_eq_true (ok.rl e he e0 he0)]; rfl) ⟨_, _, rfl, sT.trans (s1.trans s2)⟩⟩
    · rintro σ' H' ⟨v1, v2, rfl, s'⟩
      exact k _ s'
end
end K09
namespace K09
open PySem PySem.Spec PyProof.Rows L2 Jg
local macro_rules | `(tactic| walk_at "rd1") => `(tactic| (first
  | refine ⟨_, rfl, ?_⟩
  | refine ⟨_, _, rfl, rfl, ?_⟩
  | refine ⟨_, _, rfl, ?_⟩
  | refine ⟨rfl, ?_⟩
  | (refine ⟨show (0 : Int) < _ by omega, ?_⟩)
  | (refine ⟨Or.inl ⟨by omega, by omega⟩, ?_⟩)
  | (refine ⟨Or.inr ⟨by omega, by omega⟩, ?_⟩)
  | (refine ⟨(⟨by decide, by decide, by decide⟩ : CPow _ _), ?_⟩)
  | refine Or.inl ⟨_, rfl, ?_⟩
  | refine Or.inr ⟨_, rfl, ?_⟩
  | fail "rd"))
local macro_rules | `(tactic| walk_at "rd") => `(tactic| repeat' walk_at "rd1")
def spPInit (PC C : Addr) : Sp := fun vs H Q _ => ∃ x dx l es H0, vs = [.ref x, .ref l] ∧ H x = some (.ins PC dx []) ∧ Same H0 H ∧ H0 x = none ∧ H0 l = some (.lst (es.map Ed.v)) ∧ (∀ e ∈ es, EdAt C H0 e) ∧ EdsOk es ∧
  ∀ H' es', PlAt PC C H' x es' → es'.map Ed.k = es.map Ed.k → Same H0 H' → Q .non H'
def spPLen (PC C : Addr) : Sp := fun vs H Q _ => ∃ p es, vs = [.ref p] ∧ PlAt PC C H p es ∧ Q (.int es.length) H
def spPCheck (K : PySem.W.Frag) (PC C CE : Addr) : Sp := fun vs H Q E => ∃ p es y, vs = [.ref p, y] ∧ PlAt PC C H p es ∧
  ((∃ n : Nat, y = .int n ∧ n < es.length ∧ Q .non H) ∨ (K09F.BadR K H 0 (es.length - 1) y ∧ ∀ d H', H d = none → Same H H' → H' d = some (.xd [(("number" : Str), y)]) → E (.ref CE) (some d) H'))
def spPOf (K : PySem.W.Frag) (PC C CE : Addr) (out : Ed → V) : Sp := fun vs H Q E => ∃ p es y, vs = [.ref p, y] ∧ PlAt PC C H p es ∧
  ((∃ (n : Nat) (e : Ed), y = .int n ∧ es[n]? = some e ∧ Q (out e) H) ∨ (K09F.BadR K H 0 (es.length - 1) y ∧ ∀ d H', H d = none → Same H H' → H' d = some (.xd [(("number" : Str), y)]) → E (.ref CE) (some d) H'))
def spPMoms (PC C : Addr) : Sp := fun vs H Q _ => ∃ p es, vs = [.ref p] ∧ PlAt PC C H p es ∧ ∀ l H', H l = none → Same H H' → H' l = some (.lst (es.map fun e => V.int e.m)) → Q (.ref l) H'
section
variable {P : Program} {w : World} {K : PySem.W.Frag} {mg : Str → Option Value} {base : Heap} {C PC CU CE : Addr}
theorem sc_UnknownEdition_init : FnScope ["self", "number"] ["self", "number"] (defScope s_UnknownEdition_init) := ⟨rfl, rfl, rfl, by decide +kernel, rfl, by decide +kernel, by decide +kernel⟩
theorem ok_ueinit (D : K09F.ExnQ K mg "UnknownEdition" CE "UnknownEdition.__init__" s_UnknownEdition_init "number") : ExnB P w K mg base 1 "UnknownEdition" CE (spX CE "number") := by
  obtain ⟨fI, fd, F, a, ty⟩ := D.ini
  refine ⟨D.mg_, D.ovr, fI, fd, _, F.ok sc_UnknownEdition_init (fun vs H Q E h => ?_) (fun cdv A outer s H vs Q E hr h => ?_), a, ty, F.binds (fun _ _ _ _ _ _ us hl => match us, hl with | [_, _], _ => rfl)⟩
  · obtain ⟨a, y, rfl, _⟩ := h; rfl
  · obtain ⟨a, y, rfl, ha, k⟩ := h
    exact ⟨_, (pss_one (ps_keep (pv 0) (pv 1))), _, rfl, _, rfl, a, CE, rfl, D.ovr, D.no, ha, fun dx n e => k dx n e⟩
theorem sc_Plan_init : FnScope ["self", "editions", "wrong", "moment", "contents"] ["self", "editions"] (defScope s_Plan_init) := ⟨rfl, rfl, rfl, by decide +kernel, rfl, by decide +kernel, by decide +kernel⟩
theorem ok_pinit (D : MetK K PC "__init__" "Plan.__init__" s_Plan_init) (T : TxP K mg) (PT : PTx K mg PC) (G_first_wrong : Cal P w K mg base CX0 5 "_first_wrong" (spFw C)) : Met P w K mg base CX0 6 PC "__init__" (spPInit PC C) := by
  refine D.met sc_Plan_init (fun _ _ _ _ _ _ us hl => match us, hl with | [_, _], _ => rfl) (fun vs H Q E h => ?_) fun f cdv A outer s H vs Q E hr h => ?_
  · obtain ⟨x, dx, l, es, H0, rfl, _⟩ := h; rfl
  · obtain ⟨x, dx, l, es, H0, rfl, ex, s0, nx, el0, at0, ok, k⟩ := h
    refine ⟨_, (pss_cons (ps_if (PW.pt (pw_or (pt_not (pt_val (pe_callB call_isi (by rfl) T.b_isinstance (by decide +kernel) (pa_cons (pv 1) (pa_cons (pe_ty (n := "list") (by rfl) T.b_list (by decide +kernel)) pa_nil))))) (pw_or1 (pt_not (pt_chain op_le op_le pe_int (pe_callB call_len_seq (by rfl) T.b_len (by decide +kernel) (pa_cons (pv 1) pa_nil)) (pe_gc rfl T.gMOST_EDITIONS)))))) (pss_one ps_never) pss_nil)
      (pss_cons (ps_set (i := 2) sc_Plan_init.nd rfl (Or.inl rfl) (pe_c G_first_wrong hr (by decide) rfl (pa_cons (pv 1) pa_nil)))
      (pss_cons (ps_if (pt_cmpR op_notN (pv 2) pe_non (nomark _)) (pss_one ps_never) pss_nil)
      (pss_one (ps_fld (pv 0) (pe_lc (own := [("moment", 3), ("contents", 4)]) (g := gTup K 2 (gCons (gName 3) (gCons (gName 4) gNil))) (by rfl) sc_Plan_init.nd (pi_list (pv 1)) (blkOk_by (own := [("moment", 3), ("contents", 4)]) (N := ["self", "editions", "wrong", "moment", "contents"]) (sc := defScope s_Plan_init) (by decide +kernel)) (fun _ _ _ _ _ => pg_tup rfl (pgs_cons (pg_name (i := 3) sc_Plan_init.nd rfl (Or.inl rfl)) (pgs_cons (pg_name (i := 4) sc_Plan_init.nd rfl (Or.inl rfl)) pgs_nil))) (fun _ _ _ _ _ => pts_nil) (fun _ _ _ _ _ => (pe_tup (pa_cons (pv 3) (pa_cons (pv 4) pa_nil))))) rfl))))), ?_⟩
    have el := s0 _ _ el0
    have at_ : ∀ e ∈ es, EdAt C H e := fun e he => (at0 e he).same s0
    have n1 := ok.n1
    have n7 := ok.n7
    have ln : ((es.map Ed.v).length : Int) = (es.length : Int) := by rw [List.length_map]
    refine ⟨_, rfl, .ref l, .ty "list", _, _, true, rfl, .ty "list", .base (.lst el), kit_ty (by decide +kernel), true, rfl, iteF ?_⟩
    refine ⟨_, rfl, l, _, rfl, .inl (SqL.of el), 1, _, rfl, rfl, _, rfl, iteTe (decide_eq_true (by rw [ln]; omega)) ⟨_, _, rfl, rfl, _, rfl, ?_⟩⟩
    rw [decide_eq_true (show ((es.map Ed.v).length : Int) ≤ 7 by rw [ln]; omega)]
    refine iteF ?_
    refine ⟨_, rfl, l, es, rfl, el, at_, ok, fun H1 s1 => ?_⟩
    refine ⟨_, rfl, rfl, _, rfl, iteF ?_⟩
    refine ⟨_, rfl, l, rfl, ⟨_, SqL.of (s1 _ _ el)⟩, fun D nD => ?_⟩
    refine lc_list (K := K) (a := l) (xs := es.map Ed.v) (fun i H' => ∃ es', H' D = some (.lst (es'.map Ed.v)) ∧ es'.map Ed.k = (es.take i).map Ed.k ∧ (∀ e ∈ es', H' e.t = some (.tup [.int e.m, .ref e.x])) ∧ Same H1 H') ⟨[], upd_same, rfl, (fun _ h => nomatch h), same_new nD⟩ (fun i H' _ ⟨_, _, _, _, s⟩ => SqL.of (s _ _ (s1 _ _ el))) ?_ ?_
    · rintro i y H' hy ⟨es', eD, eP, cP, sP⟩
      obtain ⟨e, ee, rfl⟩ := ed_at hy
      have ae := ((at_ e (List.mem_of_getElem? ee)).same s1).same sP
      have tk : es.take (i + 1) = es.take i ++ [e] := by rw [List.take_succ, ee]; rfl
      refine ⟨e.t, _, rfl, SqT.of ae.tp, rfl, _, _, rfl, _, _, rfl, rfl, rfl, K09C.yes_if ?_⟩
      refine ⟨_, rfl, _, rfl, by show 2 ≤ sizeLine; decide, fun t nt => ?_⟩
      have pl : es'.length = (es.take i).length := by
        have z1 := congrArg List.length eP
        rw [List.length_map, List.length_map] at z1
        exact z1
      have pt := List.length_take_le i es
      have pm : es'.length ≤ 7 := by rw [pl, List.length_take]; omega
      refine ⟨_, (same_new nt) _ _ eD, by rw [List.length_map, sizeLine_eq]; omega, es' ++ [⟨e.m, t, e.x, e.c⟩], by rw [upd_same, List.map_append]; rfl, by rw [List.map_append, eP, tk, List.map_append]; rfl, fun q hq => ?_, fun q o z => ?_⟩
      · rcases List.mem_append.mp hq with hq | hq
        · have nq : q.t ≠ D := fun z => by have := cP q hq; rw [z, eD] at this; cases this
          rw [upd_ne nq]
          exact same_new nt _ _ (cP q hq)
        · obtain rfl := List.mem_singleton.mp hq
          have nq : t ≠ D := fun z => by rw [z, eD] at nt; cases nt
          show upd _ D _ t = _
          rw [upd_ne nq]
          exact upd_same
      · have nq : q ≠ D := ne_of_none z nD
        rw [upd_ne nq]
        exact same_new nt _ _ (sP _ _ z)
    · rintro H' ⟨es', eD, eP, cP, sP⟩
      rw [show (es.map Ed.v).length = es.length by rw [List.length_map], List.take_length] at eP
      have ex' := sP _ _ (s1 _ _ ex)
      refine ⟨_, rfl, x, PC, dx, [], rfl, ex', PT.cl, PT.ne, by show 0 < 1000; decide, ?_⟩
      have s4 : Same H0 (upd H' x (.ins PC dx [(("_editions" : Str), .ref D)])) := same_mut (s0.trans (s1.trans sP)) nx
      have nD' : D ≠ x := fun z => by rw [z, ex'] at eD; cases eD
      refine k _ es' ⟨⟨dx, D, upd_same, by rw [upd_ne nD']; exact eD⟩, fun e he => ?_, ok.of eP⟩ eP s4
      have me : Ed.k e ∈ es.map Ed.k := eP ▸ List.mem_map_of_mem he
      obtain ⟨q, hq, eq⟩ := List.mem_map.mp me
      have nt : e.t ≠ x := fun z => by have := cP e he; rw [z, ex'] at this; cases this
      exact ((at0 q hq).of eq s4 (by rw [upd_ne nt]; exact cP e he))
theorem sc_Plan_len : FnScope ["self"] ["self"] (defScope s_Plan_len) := ⟨rfl, rfl, rfl, by decide +kernel, rfl, by decide +kernel, by decide +kernel⟩
theorem ok_plen (D : MetK K PC "__len__" "Plan.__len__" s_Plan_len) (T : TxP K mg) (PT : PTx K mg PC) : Met P w K mg base CX0 1 PC "__len__" (spPLen PC C) := by
  refine D.met sc_Plan_len (fun _ _ _ _ _ _ us hl => match us, hl with | [_], _ => rfl) (fun vs H Q E h => ?_) fun f cdv A outer s H vs Q E hr h => ?_
  · obtain ⟨p, es, rfl, _⟩ := h; rfl
  · obtain ⟨p, es, rfl, ⟨⟨dx, l, e1, e2⟩, at_, ok⟩, k⟩ := h
    refine ⟨_, (pss_one (ps_ret (pe_callB call_len_seq (by rfl) T.b_len (by decide +kernel) (pa_cons (pe_fld (pv 0) rfl) pa_nil)))), ?_⟩
    refine ⟨_, rfl, p, PC, dx, _, .ref l, rfl, e1, PT.cl, PT.ne, get_e l, l, _, rfl, .inl (SqL.of e2), ?_⟩
    rw [show ((es.map Ed.v).length : Int) = (es.length : Int) by rw [List.length_map]]
    exact k
theorem sc_Plan_check : FnScope ["self", "number"] ["self", "number"] (defScope s_Plan_check) := ⟨rfl, rfl, rfl, by decide +kernel, rfl, by decide +kernel, by decide +kernel⟩
theorem ok_pcheck (D : MetK K PC "_check" "Plan._check" s_Plan_check) (T : TxP K mg) (PT : PTx K mg PC) (G_is_index : Cal P w K mg base CX0 3 "is_index" (spIdx K)) (G_UnknownEdition : ExnB P w K mg base 1 "UnknownEdition" CE (spX CE "number")) : Met P w K mg base (L2.CX P w) 4 PC "_check" (spPCheck K PC C CE) := by
  refine D.metX sc_Plan_check (fun _ _ _ _ _ _ us hl => match us, hl with | [_, _], _ => rfl) (fun vs H Q E h => ?_) fun f cdv A outer s H vs Q E hr h => ?_
  · obtain ⟨p, es, y, rfl, _⟩ := h; rfl
  · obtain ⟨p, es, y, rfl, ⟨⟨dx, l, e1, e2⟩, at_, ok⟩, k⟩ := h
    refine ⟨_, (pss_one (ps_if (pt_not (pt_val (pe_c G_is_index hr (by decide) rfl (pa_cons (pv 1) (pa_cons (pe_callB call_len_seq (by rfl) T.b_len (by decide +kernel) (pa_cons (pe_fld (pv 0) rfl) pa_nil)) pa_nil))))) (pss_one (ps_raise rfl (takes_of rfl rfl rfl rfl) (pmk_b G_UnknownEdition hr (by decide) rfl (pa_cons (pv 1) pa_nil)))) pss_nil)), ?_⟩
    have ln : ((es.map Ed.v).length : Int) = (es.length : Int) := by rw [List.length_map]
    refine ⟨_, rfl, _, rfl, p, PC, dx, _, .ref l, rfl, e1, PT.cl, PT.ne, get_e l, l, _, rfl, .inl (SqL.of e2), y, _, rfl, ?_⟩
    rw [ln]
    rcases k with ⟨n, rfl, lt, q⟩ | ⟨bad, k⟩
    · refine .inl ⟨n, rfl, _, rfl, ?_⟩
      rw [decide_eq_true (show (0 : Int) ≤ (n : Int) by omega), decide_eq_true (show (n : Int) ≤ (es.length : Int) - 1 by omega)]
      exact iteF q
    · rcases bad with ⟨i, rfl, e⟩ | no
      · refine .inl ⟨i, rfl, _, rfl, ?_⟩
        rw [e]
        exact iteT ⟨_, rfl, x_read fun d nd => k d _ nd (same_new nd) upd_same⟩
      · exact .inr ⟨no, _, rfl, iteT ⟨_, rfl, x_read fun d nd => k d _ nd (same_new nd) upd_same⟩⟩
theorem sc_Plan_moment_of : FnScope ["self", "number"] ["self", "number"] (defScope s_Plan_moment_of) := ⟨rfl, rfl, rfl, by decide +kernel, rfl, by decide +kernel, by decide +kernel⟩
theorem ok_pmo (D : MetK K PC "moment_of" "Plan.moment_of" s_Plan_moment_of) (T : TxP K mg) (PT : PTx K mg PC) (M_check : Met P w K mg base (L2.CX P w) 4 PC "_check" (spPCheck K PC C CE)) : Met P w K mg base (L2.CX P w) 5 PC "moment_of" (spPOf K PC C CE fun e => .int e.m) := by
  refine D.metX sc_Plan_moment_of (fun _ _ _ _ _ _ us hl => match us, hl with | [_, _], _ => rfl) (fun vs H Q E h => ?_) fun f cdv A outer s H vs Q E hr h => ?_
  · obtain ⟨p, es, y, rfl, _⟩ := h; rfl
  · obtain ⟨p, es, y, rfl, pl, k⟩ := h
    obtain ⟨⟨dx, l, e1, e2⟩, at_, ok⟩ := id pl
    refine ⟨_, (pss_cons (ps_expr (pe_mS M_check PT.cl (takes_of rfl rfl rfl rfl) hr (by decide) (pv 0) (pa_cons (pv 1) pa_nil)))
      (pss_one (ps_ret (pe_ix (r := rIxT K) ix_tup (pe_ix (r := rIxL K) ix_list (pe_fld (pv 0) rfl) (pv 1) (fun _ _ => rfl)) pe_int (fun _ _ => rfl))))), ?_⟩
    refine ⟨_, rfl, p, dx, _, rfl, e1, get_eno _ (by decide +kernel), _, rfl, p, es, y, rfl, pl, ?_⟩
    rcases k with ⟨n, e, rfl, en, q⟩ | ⟨bad, k⟩
    · refine .inl ⟨n, rfl, (List.getElem?_eq_some_iff.mp en).1, ?_⟩
      refine ⟨_, rfl, p, PC, dx, _, .ref l, rfl, e1, PT.cl, PT.ne, get_e l, _, rfl, l, _, _, .ref e.t, rfl, rfl, SqL.of e2, atI_nat (j := n) (ed_get en), e.t, _, _, _, rfl, rfl, SqT.of (at_ e (List.mem_of_getElem? en)).tp, atI_nat (j := 0) rfl, q⟩
    · exact .inr ⟨bad, fun d H' nd s2 ed => k d H' nd s2 ed⟩
theorem sc_Plan_contents_of : FnScope ["self", "number"] ["self", "number"] (defScope s_Plan_contents_of) := ⟨rfl, rfl, rfl, by decide +kernel, rfl, by decide +kernel, by decide +kernel⟩
theorem ok_pco (D : MetK K PC "contents_of" "Plan.contents_of" s_Plan_contents_of) (T : TxP K mg) (PT : PTx K mg PC) (M_check : Met P w K mg base (L2.CX P w) 4 PC "_check" (spPCheck K PC C CE)) : Met P w K mg base (L2.CX P w) 5 PC "contents_of" (spPOf K PC C CE fun e => .ref e.x) := by
  refine D.metX sc_Plan_contents_of (fun _ _ _ _ _ _ us hl => match us, hl with | [_, _], _ => rfl) (fun vs H Q E h => ?_) fun f cdv A outer s H vs Q E hr h => ?_
  · obtain ⟨p, es, y, rfl, _⟩ := h; rfl
  · obtain ⟨p, es, y, rfl, pl, k⟩ := h
    obtain ⟨⟨dx, l, e1, e2⟩, at_, ok⟩ := id pl
    refine ⟨_, (pss_cons (ps_expr (pe_mS M_check PT.cl (takes_of rfl rfl rfl rfl) hr (by decide) (pv 0) (pa_cons (pv 1) pa_nil)))
      (pss_one (ps_ret (pe_ix (r := rIxT K) ix_tup (pe_ix (r := rIxL K) ix_list (pe_fld (pv 0) rfl) (pv 1) (fun _ _ => rfl)) pe_int (fun _ _ => rfl))))), ?_⟩
    refine ⟨_, rfl, p, dx, _, rfl, e1, get_eno _ (by decide +kernel), _, rfl, p, es, y, rfl, pl, ?_⟩
    rcases k with ⟨n, e, rfl, en, q⟩ | ⟨bad, k⟩
    · refine .inl ⟨n, rfl, (List.getElem?_eq_some_iff.mp en).1, ?_⟩
      refine ⟨_, rfl, p, PC, dx, _, .ref l, rfl, e1, PT.cl, PT.ne, get_e l, _, rfl, l, _, _, .ref e.t, rfl, rfl, SqL.of e2, atI_nat (j := n) (ed_get en), e.t, _, _, _, rfl, rfl, SqT.of (at_ e (List.mem_of_getElem? en)).tp, atI_nat (j := 1) rfl, q⟩
    · exact .inr ⟨bad, fun d H' nd s2 ed => k d H' nd s2 ed⟩
theorem sc_Plan_moments : FnScope ["self", "moment", "_"] ["self"] (defScope s_Plan_moments) := ⟨rfl, rfl, rfl, by decide +kernel, rfl, by decide +kernel, by decide +kernel⟩
theorem ok_pmoms (D : MetK K PC "moments" "Plan.moments" s_Plan_moments) (PT : PTx K mg PC) : Met P w K mg base CX0 1 PC "moments" (spPMoms PC C) := by
  refine D.met sc_Plan_moments (fun _ _ _ _ _ _ us hl => match us, hl with | [_], _ => rfl) (fun vs H Q E h => ?_) fun f cdv A outer s H vs Q E hr h => ?_
  · obtain ⟨p, es, rfl, _⟩ := h; rfl
  · obtain ⟨p, es, rfl, ⟨⟨dx, l, e1, e2⟩, at_, ok⟩, k⟩ := h
    refine ⟨_, (pss_one (ps_ret (pe_lc (own := [("moment", 1), ("_", 2)]) (g := gTup K 2 (gCons (gName 1) (gCons (gName 2) gNil))) (by rfl) sc_Plan_moments.nd (pi_list (pe_fld (pv 0) rfl)) (blkOk_by (own := [("moment", 1), ("_", 2)]) (N := ["self", "moment", "_"]) (sc := defScope s_Plan_moments) (by decide +kernel)) (fun _ _ _ _ _ => pg_tup rfl (pgs_cons (pg_name (i := 1) sc_Plan_moments.nd rfl (Or.inl rfl)) (pgs_cons (pg_name (i := 2) sc_Plan_moments.nd rfl (Or.inl rfl)) pgs_nil))) (fun _ _ _ _ _ => pts_nil) (fun _ _ _ _ _ => (pv 1))))), ?_⟩
    refine ⟨_, rfl, p, PC, dx, _, .ref l, rfl, e1, PT.cl, PT.ne, get_e l, l, rfl, ⟨_, SqL.of e2⟩, fun D nD => ?_⟩
    refine lc_list (K := K) (a := l) (xs := es.map Ed.v) (fun i H' => H' D = some (.lst ((es.take i).map fun e => V.int e.m)) ∧ Same H H') ⟨upd_same, same_new nD⟩ (fun i H' _ ⟨_, s⟩ => SqL.of (s _ _ e2)) ?_ ?_
    · rintro i y H' hy ⟨eD, sP⟩
      obtain ⟨e, ee, rfl⟩ := ed_at hy
      have ae := (at_ e (List.mem_of_getElem? ee)).same sP
      have tk : es.take (i + 1) = es.take i ++ [e] := by rw [List.take_succ, ee]; rfl
      have pt : (es.take i).length ≤ es.length := List.length_take_le' i es
      have n7 := ok.n7
      refine ⟨e.t, _, rfl, SqT.of ae.tp, rfl, _, _, rfl, _, _, rfl, rfl, rfl, K09C.yes_if ?_⟩
      refine ⟨_, rfl, _, eD, by rw [List.length_map, sizeLine_eq]; omega, by rw [upd_same, tk, List.map_append]; rfl, same_mut sP nD⟩
    · rintro H' ⟨eD, sP⟩
      rw [show (es.map Ed.v).length = es.length by rw [List.length_map], List.take_length] at eD
      exact k D H' nD sP eD
end
end K09
namespace Jg
open PySem PySem.Spec PyProof.Rows L2
end Jg
namespace Jg
open PySem PySem.Spec PyProof.Rows L2
end Jg
namespace Jg
open PySem PySem.W
end Jg
namespace Jg
open PySem PySem.Spec PyProof.Rows L2 GenW
end Jg
namespace Jg
open PySem PySem.Spec PyProof.Rows L2
end Jg
namespace Jg
open PySem PySem.Spec PyProof.Rows L2
theorem TsAt.more {H : Hp} {t : Addr} {a b : Int} (e : H t = some (.tup [.int a, .int b])) : ∀ {ts : List Addr} {ps : List (Int × Int)}, TsAt H ts ps → TsAt H (ts ++ [t]) (ps ++ [(a, b)])
  | _, _, .nil => .cons e .nil
  | _, _, .cons z r => .cons z (r.more e)
end Jg
namespace Jg
open PySem PySem.Spec PyProof.Rows L2
theorem TtAt.app {H : Hp} : ∀ {ts us : List Addr} {ps qs : List Tr}, TtAt H ts ps → TtAt H us qs → TtAt H (ts ++ us) (ps ++ qs)
  | _, _, _, _, .nil, h => h
  | _, _, _, _, .cons z r, h => .cons z (r.app h)
theorem TtAt.more {H : Hp} {t : Addr} {q : Tr} {ts : List Addr} {ps : List Tr} (h : TtAt H ts ps) (e : H t = some (.tup (Tr.v q))) : TtAt H (ts ++ [t]) (ps ++ [q]) := h.app (.cons e .nil)
theorem push_mono {H : Hp} {D : Addr} {xs : List V} {o : HO} (eD : H D = some (.lst xs)) : ∀ q u, H q = some u → upd H D o q = some u ∨ ∀ vs, u ≠ .tup vs := fun q u e => by
  by_cases c : q = D
  · subst c
    rw [eD] at e
    cases Option.some.inj e
    exact .inr fun _ z => nomatch z
  · rw [upd_ne c]; exact .inl e
theorem TrsAt.push {H : Hp} {D t : Addr} {us : List Addr} {ps : List Tr} {q : Tr} (eD : H D = some (.lst (us.map V.ref))) (tt : TtAt H us ps) (et : H t = some (.tup (Tr.v q))) : TrsAt (upd H D (.lst (us.map V.ref ++ [.ref t]))) D (ps ++ [q]) := by
  have n : t ≠ D := fun z => by rw [z, eD] at et; cases et
  exact ⟨us ++ [t], by rw [upd_same, List.map_append]; rfl, (tt.mono fun b o e => (push_mono eD b o e).imp id fun z q => z _).more (by rw [upd_ne n]; exact et)⟩
theorem PrsAt.push {H : Hp} {D t : Addr} {us : List Addr} {ps : List (Int × Int)} {a b : Int} (eD : H D = some (.lst (us.map V.ref))) (tt : TsAt H us ps) (et : H t = some (.tup [.int a, .int b])) : PrsAt (upd H D (.lst (us.map V.ref ++ [.ref t]))) D (ps ++ [(a, b)]) := by
  have n : t ≠ D := fun z => by rw [z, eD] at et; cases et
  exact ⟨us ++ [t], by rw [upd_same, List.map_append]; rfl, TsAt.more (by rw [upd_ne n]; exact et) (tt.mono fun b o e => (push_mono eD b o e).imp id fun z q1 q2 => z _)⟩
end Jg
namespace Jg
open PySem PySem.Spec PyProof.Rows L2
section
variable {α : Type} {v : α → List V}
theorem GtAt.app {H : Hp} : ∀ {ts us : List Addr} {ps qs : List α}, GtAt v H ts ps → GtAt v H us qs → GtAt v H (ts ++ us) (ps ++ qs)
  | _, _, _, _, .nil, h => h
  | _, _, _, _, .cons z r, h => .cons z (r.app h)
theorem GtAt.more {H : Hp} {t : Addr} {q : α} {ts : List Addr} {ps : List α} (h : GtAt v H ts ps) (e : H t = some (.tup (v q))) : GtAt v H (ts ++ [t]) (ps ++ [q]) := h.app (.cons e .nil)
theorem GsAt.push {H : Hp} {D t : Addr} {us : List Addr} {ps : List α} {q : α} (eD : H D = some (.lst (us.map V.ref))) (tt : GtAt v H us ps) (et : H t = some (.tup (v q))) : GsAt v (upd H D (.lst (us.map V.ref ++ [.ref t]))) D (ps ++ [q]) := by
  have n : t ≠ D := fun z => by rw [z, eD] at et; cases et
  exact ⟨us ++ [t], by rw [upd_same, List.map_append]; rfl, (tt.mono (push_mono eD)).more (by rw [upd_ne n]; exact et)⟩
variable [DecidableEq α] {d : α → PyData} {ok : α → Prop}
variable {K : PySem.W.Frag} {H : Hp} {Q : VK}
end
def v3 (q : I3) : List V := [.int q.1, .int q.2.1, .int q.2.2]
theorem eqv_int (x y : Int) : PyData.eqv (.int x) (.int y) = decide (x = y) := by
  by_cases c : x = y
  · subst c; simp [PyData.eqv]
  · simp [PyData.eqv, c]
theorem and3_dec {A B C D : Prop} [Decidable A] [Decidable B] [Decidable C] [Decidable D] (h : D ↔ A ∧ B ∧ C) : (decide A && (decide B && (decide C && true))) = decide D := by
  by_cases a : A <;> by_cases b : B <;> by_cases c : C <;> simp [a, b, c, h]
theorem g3 : Gd v3 d3 fun _ => True where
  dp := fun e => .tup (SqT.of e) (.cons (.int _) (.cons (.int _) (.cons (.int _) .nil)))
  lay := fun _ _ => rfl
  dep := fun q => by show (1 : Nat) ≤ 2; decide
  eqv := fun p q => by
    show PyData.eqv (.tuple _) (.tuple _) = _
    rw [PyData.eqv]
    show (PyData.eqv (.int p.1) (.int q.1) && (PyData.eqv (.int p.2.1) (.int q.2.1) && (PyData.eqv (.int p.2.2) (.int q.2.2) && true))) = _
    rw [eqv_int, eqv_int, eqv_int]
    exact and3_dec ⟨fun e => by subst e; exact ⟨rfl, rfl, rfl⟩, fun ⟨a, b, c⟩ => Prod.ext a (Prod.ext b c)⟩
end Jg
namespace Jg.Szp
open PySem PySem.Spec PyProof.Rows PySem.W PySem.Calls PyProof.V
end Jg.Szp
namespace Jg
open PySem PySem.Spec PyProof.Rows L2
end Jg
namespace Jg
open PySem PySem.Spec PyProof.Rows L2
end Jg
namespace K09
open PySem PySem.Spec PyProof.Rows L2 Jg
local macro_rules | `(tactic| walk_at "rd1") => `(tactic| (first
  | refine ⟨_, rfl, ?_⟩
  | refine ⟨_, _, rfl, rfl, ?_⟩
  | refine ⟨_, _, rfl, ?_⟩
  | refine ⟨rfl, ?_⟩
  | (refine ⟨show (0 : Int) < _ by omega, ?_⟩)
  | (refine ⟨Or.inl ⟨by omega, by omega⟩, ?_⟩)
  | (refine ⟨Or.inr ⟨by omega, by omega⟩, ?_⟩)
  | (refine ⟨(⟨by decide, by decide, by decide⟩ : CPow _ _), ?_⟩)
  | refine Or.inl ⟨_, rfl, ?_⟩
  | refine Or.inr ⟨_, rfl, ?_⟩
  | fail "rd"))
local macro_rules | `(tactic| walk_at "rd") => `(tactic| repeat' walk_at "rd1")
open K09C (Ct CAt CtOk ctB Use)
/-- the contents of one address are the same -/
theorem ct_same {S S' : Addr → Prop} {C : Addr} {H : Hp} {x : Addr} {c e : Ct} (h : CAt S C H x c) (h2 : CAt S' C H x e) : ctB c e = true := by
  obtain ⟨⟨dx, d, v, s, e1, e2, e3, e4, _⟩, us⟩ := h
  obtain ⟨⟨dx', d', v', s', f1, f2, f3, f4, _⟩, us'⟩ := h2
  rw [e1] at f1
  have q := Option.some.inj f1
  have qf : K09C.cflds d v c.ne s = K09C.cflds d' v' e.ne s' := (HO.ins.inj q).2.2
  unfold K09C.cflds at qf
  simp only [List.cons.injEq, Prod.mk.injEq, V.ref.injEq, V.int.injEq, true_and, and_true] at qf
  obtain ⟨rfl, rfl, en, rfl⟩ := qf
  have strJ : ∀ {a b : List Str}, a.map V.str = b.map V.str → a = b := fun {a b} h => by
    have := congrArg (List.map K09C.txV) h
    rw [List.map_map, List.map_map] at this
    have id_ : ∀ l : List Str, l.map (K09C.txV ∘ V.str) = l := fun l => (List.map_congr_left fun _ _ => rfl).trans (List.map_id l)
    rw [id_, id_] at this
    exact this
  rw [e3] at f3
  rw [e4] at f4
  have ev : c.vo = e.vo := strJ (HO.lst.inj (Option.some.inj f3))
  have es : c.si = e.si := strJ (HO.lst.inj (Option.some.inj f4))
  rw [e2] at f2
  have ed : K09C.dictU c.us = K09C.dictU e.us := HO.dK.inj (Option.some.inj f2)
  have eu : c.us.map K09C.tri = e.us.map K09C.tri := by
    refine List.ext_getElem? fun i => ?_
    have q := congrArg (fun l => l[i]?) ed
    unfold K09C.dictU at q
    simp only [List.getElem?_map] at q ⊢
    cases h1 : c.us[i]? with
    | none =>
      rw [h1] at q
      cases h2 : e.us[i]? with
      | none => rfl
      | some r => rw [h2] at q; cases q
    | some r =>
      rw [h1] at q
      cases h2 : e.us[i]? with
      | none => rw [h2] at q; cases q
      | some r2 =>
        rw [h2] at q
        have q := Option.some.inj q
        have ez : r.z = r2.z := Sum.inr.inj (congrArg Prod.fst q)
        have et : r.t = r2.t := V.ref.inj (congrArg Prod.snd q)
        have U := us r (List.mem_of_getElem? h1)
        have U2 := us' r2 (List.mem_of_getElem? h2)
        have tp := U.tp
        rw [et, U2.tp] at tp
        have tl := HO.tup.inj (Option.some.inj tp)
        simp only [List.cons.injEq, V.ref.injEq, V.str.injEq, and_true] at tl
        have ls := U.ls
        rw [← tl.1, U2.ls] at ls
        have lk := strJ (HO.lst.inj (Option.some.inj ls))
        show some (r.z, r.ks, r.u) = some (r2.z, r2.ks, r2.u)
        rw [ez, lk, tl.2]
  unfold ctB
  rw [decide_eq_true eu, decide_eq_true ev, decide_eq_true en, decide_eq_true es]; rfl
/-- contents compared, both answers -/
def ceB (C : Addr) (x y : Addr) (H : Hp) (b : Bool) : Prop := ∃ c e S S', CAt S C H x c ∧ CtOk c ∧ CAt S' C H y e ∧ CtOk e ∧ b = ctB c e
theorem ceB_mono {C : Addr} : ∀ a b H H' r, Ext H H' → ceB C a b H r → ceB C a b H' r := fun a b H H' r x ⟨c, e, S, S', h1, k1, h2, k2, q⟩ => ⟨c, e, S, S', h1.same x, k1, h2.same x, k2, q⟩
theorem ceB_sp {K : PySem.W.Frag} {C : Addr} : ∀ vs H Q E, spEqB (ceB C) vs H Q E → K09C.spCEq K C vs H Q E := fun vs H Q E ⟨a, b, r, e, ⟨c, d, S, S', h1, k1, h2, k2, q⟩, k⟩ => ⟨a, .ref b, c, S, e, h1, k1, .inl ⟨b, d, S', rfl, h2, k2, by rw [← q]; exact k H Ext.rfl'⟩⟩
/-- two editions are the same -/
def edB (a b : Ed) : Bool := decide (a.m = b.m) && ctB a.c b.c
def edF (es es2 : List Ed) (i : Nat) : Bool := match es[i]?, es2[i]? with
  | some a, some b => edB a b
  | _, _ => true
def eqEdB (es es2 : List Ed) : Bool := decide (es.length = es2.length) && allF (edF es es2) 0 es.length
/-- what is asked of two editions that stand -/
theorem ask_ed {K : PySem.W.Frag} {C : Addr} {H : Hp} {a b : Ed} (A1 : EdAt C H a) (B1 : EdAt C H b) : TupR K (FiB C (ceB C)) (.ref a.t) (.ref b.t) H (edB a b) := by
  obtain ⟨dy, d, v, s, g1, _⟩ := A1.ct.ex
  obtain ⟨dy2, d2, v2, s2, g2, _⟩ := B1.ct.ex
  refine ⟨⟨a.t, b.t, _, _, fun i => match i with | 0 => decide (a.m = b.m) | _ => ctB a.c b.c, rfl, rfl, SqT.of A1.tp, SqT.of B1.tp, rfl, fun i x y hx hy => ?_, ?_⟩, fun e => ?_⟩
  · match i, hx, hy with
    | 0, hx, hy =>
      cases Option.some.inj hx
      cases Option.some.inj hy
      refine .inl ⟨rfl, rfl, ?_⟩
      show (a.m == b.m) = decide (a.m = b.m)
      rfl
    | 1, hx, hy =>
      cases Option.some.inj hx
      cases Option.some.inj hy
      refine .inr ⟨⟨a.x, b.x, dy, dy2, _, _, rfl, rfl, g1, g2, a.c, b.c, _, _, A1.ct, A1.ok, B1.ct, B1.ok, rfl⟩, fun e => ?_⟩
      have ct := A1.ct
      rw [V.ref.inj e] at ct
      exact ct_same ct B1.ct
    | i + 2, hx, hy => cases hx
  · show edB a b = (decide (a.m = b.m) && (ctB a.c b.c && true))
    rw [Bool.and_true]; rfl
  · have tp := A1.tp
    rw [V.ref.inj e, B1.tp] at tp
    have tl := HO.tup.inj (Option.some.inj tp)
    simp only [List.cons.injEq, V.ref.injEq, V.int.injEq, and_true] at tl
    have ct := A1.ct
    rw [← tl.2] at ct
    unfold edB
    rw [decide_eq_true tl.1.symm, ct_same ct B1.ct]; rfl
theorem ask_eds {K : PySem.W.Frag} {C : Addr} {H : Hp} {l l2 : Addr} {es es2 : List Ed} (e1 : H l = some (.lst (es.map Ed.v))) (e2 : H l2 = some (.lst (es2.map Ed.v))) (a1 : ∀ e ∈ es, EdAt C H e) (a2 : ∀ e ∈ es2, EdAt C H e) : LstB (TupR K (FiB C (ceB C))) (.ref l) (.ref l2) H (eqEdB es es2) := by
  refine ⟨l, l2, _, _, edF es es2, rfl, rfl, e1, e2, fun _ i x y hx hy => ?_, by rw [List.length_map, List.length_map]; rfl⟩
  obtain ⟨a, ha, rfl⟩ := ed_at hx
  obtain ⟨b, hb, rfl⟩ := ed_at hy
  have e : edF es es2 i = edB a b := by unfold edF; rw [ha, hb]
  rw [e]
  exact ask_ed (a1 a (List.mem_of_getElem? ha)) (a2 b (List.mem_of_getElem? hb))
@[irreducible] def spPEqB (K : PySem.W.Frag) (PC C : Addr) : Sp := fun vs H Q _ => ∃ (p : Addr) (y : V) (es : List Ed), vs = [.ref p, y] ∧ PlAt PC C H p es ∧
  ((∃ (p2 : Addr) (es2 : List Ed), y = .ref p2 ∧ PlAt PC C H p2 es2 ∧ ∀ H', Same H H' → Q (.bl (eqEdB es es2)) H') ∨ (∃ t, TyX K H y t ∧ PySem.W.kitOne K t (.ref PC) = some false ∧ Q (.bl false) H))
section
variable {P : Program} {w : World} {K : PySem.W.Frag} {mg : Str → Option Value} {base : Heap} {C PC : Addr}
theorem sc_Plan_eq : FnScope ["self", "other"] ["self", "other"] (defScope s_Plan_eq) := ⟨rfl, rfl, rfl, by decide +kernel, rfl, by decide +kernel, by decide +kernel⟩
theorem ok_peqb (D : MetK K PC "__eq__" "Plan.__eq__" s_Plan_eq) (T : TxP K mg) (PT : PTx K mg PC) (PE2 : PEx K PC) (M_ceq : Met P w K mg base CX0 1 C "__eq__" (K09C.spCEq K C)) : Met P w K mg base CX0 4 PC "__eq__" (spPEqB K PC C) := by
  refine D.met sc_Plan_eq (fun _ _ _ _ _ _ us hl => match us, hl with | [_, _], _ => rfl) (fun vs H Q E h => ?_) fun f cdv A outer s H vs Q E hr h => ?_
  · unfold spPEqB at h; obtain ⟨p, y, es, rfl, _⟩ := h; rfl
  · unfold spPEqB at h; obtain ⟨p, y, es, rfl, pl, h⟩ := h
    obtain ⟨dx, l, e1, e2⟩ := id pl.ex
    refine ⟨_, (pss_one (ps_ret (pe_and (pe_callB call_isi (by rfl) T.b_isinstance (by decide +kernel) (pa_cons (pv 1) (pa_cons (pe_glob (v := .ref PC) rfl PT.cPlan rfl) pa_nil))) (pe_one (pe_cmpR (op_eqLTB M_ceq ceB_sp ceB_mono hr (by decide)) (pe_fld (pv 0) rfl) (pe_fld (pv 1) rfl) (nomark _)))))), ?_⟩
    rcases h with ⟨p2, es2, rfl, pl2, k⟩ | ⟨t, ty, kit, k⟩
    · obtain ⟨dx2, l2, f1, f2⟩ := id pl2.ex
      refine ⟨_, rfl, .ref p2, .ref PC, _, _, true, rfl, .own PC, PE2.ty PT f1, PE2.kCC, _, rfl, iteT ?_⟩
      exact ⟨_, rfl, p, PC, dx, _, _, rfl, e1, PT.cl, PT.ne, get_e _, _, rfl, p2, PC, dx2, _, _, rfl, f1, PT.cl, PT.ne, get_e _, _, ask_eds e2 f2 pl.eds pl2.eds, fun H' x => k H' x⟩
    · exact ⟨_, rfl, y, .ref PC, _, _, false, rfl, .own PC, ty, kit, _, rfl, iteF k⟩
end
end K09
namespace K09
open PySem PySem.Spec PyProof.Rows L2 Jg
local macro_rules | `(tactic| walk_at "rd1") => `(tactic| (first
  | refine ⟨_, rfl, ?_⟩
  | refine ⟨_, _, rfl, rfl, ?_⟩
  | refine ⟨_, _, rfl, ?_⟩
  | refine ⟨rfl, ?_⟩
  | (refine ⟨show (0 : Int) < _ by omega, ?_⟩)
  | (refine ⟨Or.inl ⟨by omega, by omega⟩, ?_⟩)
  | (refine ⟨Or.inr ⟨by omega, by omega⟩, ?_⟩)
  | (refine ⟨(⟨by decide, by decide, by decide⟩ : CPow _ _), ?_⟩)
  | refine Or.inl ⟨_, rfl, ?_⟩
  | refine Or.inr ⟨_, rfl, ?_⟩
  | fail "rd"))
local macro_rules | `(tactic| walk_at "rd") => `(tactic| repeat' walk_at "rd1")
open K09C (Ct CAt CtOk)
/-- the edition does not fit those before it -/
def wrE (es : List Ed) (i : Nat) : Bool := match es[i]?, es[0]? with
  | some e, some e0 => (decide (0 < i) && (match es[i - 1]? with | some b => decide (e.m ≤ b.m) | none => false)) || !decide (e.c.us.map (·.z) = e0.c.us.map (·.z))
  | _, _ => false
def fwE (es : List Ed) : Option Nat := (List.range es.length).find? (wrE es)
theorem fr_at {p : Nat → Bool} {i : Nat} (no : ∀ j, j < i → p j = false) (y : p i = true) : ∀ L, i < L → (List.range L).find? p = some i
  | 0, h => absurd h (Nat.not_lt_zero _)
  | L + 1, h => by
    rw [List.range_succ, List.find?_append]
    by_cases c : i < L
    · rw [fr_at no y L c]; rfl
    · have e : i = L := by omega
      subst e
      rw [List.find?_eq_none.mpr fun x hx => by rw [no x (List.mem_range.mp hx)]; decide]
      show List.find? p [i] = some i
      rw [List.find?_cons, y]
theorem fr_no {p : Nat → Bool} {L : Nat} (no : ∀ j, j < L → p j = false) : (List.range L).find? p = none := List.find?_eq_none.mpr fun x hx => by rw [no x (List.mem_range.mp hx)]; decide
theorem wrE_at {es : List Ed} {i : Nat} {e e0 : Ed} (he : es[i]? = some e) (h0 : es[0]? = some e0) : wrE es i = ((decide (0 < i) && (match es[i - 1]? with | some b => decide (e.m ≤ b.m) | none => false)) || !decide (e.c.us.map (·.z) = e0.c.us.map (·.z))) := by
  unfold wrE; rw [he, h0]
theorem fwE_ok {es : List Ed} (n1 : 1 ≤ es.length) (n7 : es.length ≤ 7) (mo : ∀ e ∈ es, 0 ≤ e.m ∧ e.m ≤ LM) (h : fwE es = none) : EdsOk es := by
  obtain ⟨e0, h0⟩ : ∃ e0, es[0]? = some e0 := ⟨_, List.getElem?_eq_getElem (by omega)⟩
  have no : ∀ i, i < es.length → wrE es i = false := fun i hi => by
    have := List.find?_eq_none.mp h i (List.mem_range.mpr hi)
    simpa using this
  have rl : ∀ e ∈ es, e.c.us.map (·.z) = e0.c.us.map (·.z) := fun e he => by
    obtain ⟨i, hi⟩ := List.getElem?_of_mem he
    have q := no i (List.getElem?_eq_some_iff.mp hi).1
    rw [wrE_at hi h0, Bool.or_eq_false_iff] at q
    have := q.2
    simpa using this
  refine ⟨n1, n7, mo, fun i a b ha hb => ?_, fun a ha b hb => (rl a ha).trans (rl b hb).symm⟩
  have q := no (i + 1) (List.getElem?_eq_some_iff.mp hb).1
  rw [wrE_at hb h0, Bool.or_eq_false_iff] at q
  have q := q.1
  rw [decide_eq_true (Nat.succ_pos i), Bool.true_and, Nat.add_sub_cancel, ha] at q
  have := of_decide_eq_false q
  omega
@[irreducible] def spFwB (C : Addr) : Sp := fun vs H Q _ => ∃ (l : Addr) (es : List Ed), vs = [.ref l] ∧ H l = some (.lst (es.map Ed.v)) ∧ (∀ e ∈ es, EdAt C H e) ∧ 1 ≤ es.length ∧ (∀ e ∈ es, 0 ≤ e.m ∧ e.m ≤ LM) ∧ (fwE es = none → ∀ H', Same H H' → Q .non H') ∧ ∀ n : Nat, fwE es = some n → ∀ H', Same H H' → Q (.int n) H'
section
variable {P : Program} {w : World} {K : PySem.W.Frag} {mg : Str → Option Value} {base : Heap} {C PC CU : Addr}
theorem ok_fwb (D : DefK K mg "_first_wrong" s_first_wrong) (T : TxP K mg) (J : K09C.CTx K mg C) (G_is_edition : Cal P w K mg base CX0 4 "_is_edition" (spIsEd C)) (P_roles : Prp P w K mg base CX0 1 C "roles" (K09C.spLst C fun c => c.us.map (·.z))) : Cal P w K mg base CX0 5 "_first_wrong" (spFwB C) := by
  refine D.cal sc_first_wrong (fun _ _ _ _ _ _ us hl => match us, hl with | [_], _ => rfl) (fun vs H Q E h => ?_) fun f cdv A outer s H vs Q E hr h => ?_
  · unfold spFwB at h; obtain ⟨l, es, rfl, _⟩ := h; rfl
  · unfold spFwB at h; obtain ⟨l, es, rfl, el, at_, n1, mo, kn, ks⟩ := h
    have hu : (A.deeper (envOfC "_first_wrong" (defScope s_first_wrong) s.heap.objs.size f cdv)).units + 64 < cLine := hr.units
    refine ⟨_, (pss_cons (ps_for PassesOwn.never rfl (pi_enum (by rfl) T.b_enumerate (pa_cons (pv 0) pa_nil)) (pg_tup rfl (pgs_cons (pg_name (i := 1) sc_first_wrong.nd rfl (Or.inl rfl)) (pgs_cons (pg_name (i := 2) sc_first_wrong.nd rfl (Or.inl rfl)) pgs_nil))) (pss_cons (ps_if (pt_not (pt_val (pe_c G_is_edition hr (by decide) rfl (pa_cons (pv 2) pa_nil)))) (pss_one (ps_ret (pv 1))) pss_nil)
      (C8.pss_cut (ps_if (PW.pt (pw_and (pt_cmpR op_gt (pv 1) pe_int (nomark _)) (pw_and1 (pt_cmpR op_le (pe_ix (r := rIxT K) ix_tup (pv 2) pe_int (fun _ _ => rfl)) (pe_ix (r := rIxT K) ix_tup (pe_ix (r := rIxL K) ix_list (pv 0) (pe_op op_sub (pv 1) pe_int) (fun _ _ => rfl)) pe_int (fun _ _ => rfl)) (nomark _))))) (pss_one (ps_ret (pv 1))) pss_nil)
      (pss_one (ps_if (pt_cmpR (op_neD hu) (pe_p P_roles J.cl hr (by decide) (pe_ix (r := rIxT K) ix_tup (pv 2) pe_int (fun _ _ => rfl))) (pe_p P_roles J.cl hr (by decide) (pe_ix (r := rIxT K) ix_tup (pe_ix (r := rIxL K) ix_list (pv 0) pe_int (fun _ _ => rfl)) pe_int (fun _ _ => rfl))) (nomark _)) (pss_one (ps_ret (pv 1))) pss_nil)))))
      (pss_one (ps_ret pe_non))), ?_⟩
    refine for_enum (a := l) (xs := es.map Ed.v) rfl el (fun j σ' H' => ∃ v1 v2, σ' = [some (.ref l), v1, v2] ∧ Same H H' ∧ ∀ i, i < j → wrE es i = false) ⟨_, _, rfl, .refl _, fun i hi => absurd hi (Nat.not_lt_zero _)⟩ (fun j σ' H' ⟨_, _, _, s, _⟩ => s) ?_ ?_
    · rintro j y T0 σ' H' hy ⟨v1, v2, rfl, s', no⟩ nT
      obtain ⟨e, ee, rfl⟩ := ed_at hy
      have he := List.mem_of_getElem? ee
      have sT := same_new' (o := .tup [.int (j : Nat), .ref e.t]) s' nT
      refine ⟨T0, _, rfl, SqT.of upd_same, rfl, _, _, rfl, _, _, rfl, rfl, ?_⟩
      generalize upd H' T0 (.tup [.int (j : Nat), .ref e.t]) = H1 at *
      have ae := (at_ e he).same sT
      have sq : SqT K H1 e.t [.int e.m, .ref e.x] := SqT.of ae.tp
      have sl : SqL K H1 l (es.map Ed.v) := SqL.of (sT _ _ el)
      refine ⟨_, rfl, e, rfl, ae, (mo e he).1, (mo e he).2, _, rfl, iteF ?_⟩
      obtain ⟨e0, ee0⟩ : ∃ e0, es[0]? = some e0 := by
        match es, n1 with
        | e0 :: _, _ => exact ⟨e0, rfl⟩
      have he0 := List.mem_of_getElem? ee0
      have a0 := (at_ e0 he0).same sT
      have sq0 : SqT K H1 e0.t [.int e0.m, .ref e0.x] := SqT.of a0.tp
      obtain ⟨⟨dx, d, v, sg, ex, _⟩, _⟩ := id ae.ct
      obtain ⟨⟨dx0, d0, v0, sg0, ex0, _⟩, _⟩ := id a0.ct
      have few : e.c.us.length ≤ 3 := ae.ok.n3
      have jl := (List.getElem?_eq_some_iff.mp ee).1
      refine ⟨fun σ' H2 => σ' = [some (.ref l), some (.int (j : Nat)), some (.ref e.t)] ∧ H2 = H1 ∧ (decide (0 < j) && (match es[j - 1]? with | some b => decide (e.m ≤ b.m) | none => false)) = false, ?_, ?_⟩
      · refine ⟨_, rfl, _, _, rfl, rfl, _, rfl, ?_⟩
        by_cases c0 : (0 : Int) < (j : Nat)
        · rw [decide_eq_true c0]
          refine iteT ?_
          obtain ⟨i0, rfl⟩ : ∃ i0, j = i0 + 1 := ⟨j - 1, by omega⟩
          have ej : (((i0 + 1 : Nat) : Int) - 1) = ((i0 : Nat) : Int) := by omega
          obtain ⟨b, eb⟩ : ∃ b, es[i0]? = some b := ⟨_, List.getElem?_eq_getElem (by omega)⟩
          have ab := (at_ b (List.mem_of_getElem? eb)).same sT
          refine ⟨_, rfl, e.t, _, 0, _, rfl, rfl, sq, atI_nat (j := 0) rfl, _, rfl, _, rfl, _, _, rfl, rfl, l, _, _, .ref b.t, rfl, rfl, sl, ?_, b.t, _, 0, _, rfl, rfl, SqT.of ab.tp, atI_nat (j := 0) rfl, _, _, rfl, rfl, _, rfl, ?_⟩
          · rw [ej]
            exact atI_nat (j := i0) (ed_get eb)
          · have tail : (decide (0 < i0 + 1) && (match es[i0 + 1 - 1]? with | some b => decide (e.m ≤ b.m) | none => false)) = decide (e.m ≤ b.m) := by
              rw [decide_eq_true (Nat.succ_pos i0), Bool.true_and, Nat.add_sub_cancel, eb]
            by_cases c1 : e.m ≤ b.m
            · rw [decide_eq_true c1]
              refine iteT ⟨_, rfl, ks (i0 + 1) (fr_at no ?_ _ jl) _ sT⟩
              rw [wrE_at ee ee0, tail, decide_eq_true c1]; rfl
            · rw [decide_eq_false c1]
              exact iteF ⟨rfl, rfl, by rw [tail, decide_eq_false c1]⟩
        · rw [decide_eq_false c0]
          exact iteF (iteF ⟨rfl, rfl, by rw [decide_eq_false (by omega)]; rfl⟩)
      · rintro _ _ ⟨rfl, rfl, w0⟩
        refine ⟨_, rfl, e.t, _, 1, _, rfl, rfl, sq, atI_nat (j := 1) rfl, e.x, dx, _, rfl, ex, e.x, e.c, _, rfl, ae.ct, fun p1 n1 => ?_⟩
        have s1 := same_new (o := .lst ((e.c.us.map (·.z)).map V.str)) n1
        refine ⟨_, rfl, _, _, 0, _, rfl, rfl, s1.seq sl, atI_nat (j := 0) (ed_get ee0), e0.t, _, 1, _, rfl, rfl, SqT.of (s1 _ _ a0.tp), atI_nat (j := 1) rfl, e0.x, dx0, _, rfl, s1 _ _ ex0, e0.x, e0.c, _, rfl, a0.ct.same s1, fun p2 n2 => ?_⟩
        have s2 := same_new (o := .lst ((e0.c.us.map (·.z)).map V.str)) n2
        have sF := sT.trans (s1.trans s2)
        refine ask_neS (xs := e.c.us.map (·.z)) (ys := e0.c.us.map (·.z)) (SqL.of (s2 _ _ upd_same)) (SqL.of upd_same) (okW_role ae.ok) (okW_role a0.ok) ⟨_, rfl, ?_⟩
        by_cases c2 : e.c.us.map (·.z) = e0.c.us.map (·.z)
        · refine iteFe (by rw [decide_eq_true c2]; rfl) ⟨_, _, rfl, sF, fun i hi => ?_⟩
          by_cases ci : i = j
          · rw [ci, wrE_at ee ee0, w0, decide_eq_true c2]; rfl
          · exact no i (by omega)
        · refine iteTe (by rw [decide_eq_false c2]; rfl) ⟨_, rfl, ks j (fr_at no ?_ _ jl) _ sF⟩
          rw [wrE_at ee ee0, w0, decide_eq_false c2]; rfl
    · rintro σ' H' ⟨v1, v2, rfl, s', no⟩
      rw [List.length_map] at no
      exact kn (fr_no no) _ s'
end
end K09
namespace K09
open PySem PySem.Spec PyProof.Rows L2 Jg
local macro_rules | `(tactic| walk_at "rd1") => `(tactic| (first
  | refine ⟨_, rfl, ?_⟩
  | refine ⟨_, _, rfl, rfl, ?_⟩
  | refine ⟨_, _, rfl, ?_⟩
  | refine ⟨rfl, ?_⟩
  | (refine ⟨show (0 : Int) < _ by omega, ?_⟩)
  | (refine ⟨Or.inl ⟨by omega, by omega⟩, ?_⟩)
  | (refine ⟨Or.inr ⟨by omega, by omega⟩, ?_⟩)
  | (refine ⟨(⟨by decide, by decide, by decide⟩ : CPow _ _), ?_⟩)
  | refine Or.inl ⟨_, rfl, ?_⟩
  | refine Or.inr ⟨_, rfl, ?_⟩
  | fail "rd"))
local macro_rules | `(tactic| walk_at "rd") => `(tactic| repeat' walk_at "rd1")
open K09C (Ct CAt CtOk hid hid_in hid_get hid_same)
theorem PlX.pl {PC C p : Addr} {H : Hp} {es : List Ed} (h : PlX PC C H p es) : PlAt PC C H p es :=
  let ⟨dx, l, e1, e2⟩ := h.ex
  ⟨⟨dx, l, e1, (hid_get e2).1⟩, fun e he => (h.eds e he).same hid_same, h.ok⟩
def SameP (p : Addr) (H H' : Hp) : Prop := ∀ q o, H q = some o → q ≠ p → H' q = some o
theorem SameP.hid {p : Addr} {H H' : Hp} (s : SameP p H H') : Same (hid [p] H) (hid [p] H') := fun q o e => by
  obtain ⟨a, b⟩ := hid_get e
  exact hid_in (s _ _ a fun z => b (List.mem_singleton.mpr z)) b
theorem cut_last {xs : List V} {x : V} : cutV (xs ++ [x]) none (some (-1)) = xs := by
  unfold cutV
  have e : HT.sIx (xs ++ [x]).length (xs ++ [x]).length (some (-1)) = xs.length := by
    show (if (-1 : Int) < 0 then ((-1 : Int) + ((xs ++ [x]).length : Int)).toNat else min (-1 : Int).toNat (xs ++ [x]).length) = _
    rw [if_pos (by decide), List.length_append]
    show ((-1 : Int) + ((xs.length + 1 : Nat) : Int)).toNat = _
    omega
  rw [e, HT.sIx_none, Nat.sub_zero, List.drop_zero, List.take_append_of_le_length (Nat.le_refl _), List.take_length]
theorem EdsOk.init {es : List Ed} {e : Ed} (ok : EdsOk (es ++ [e])) (n1 : 1 ≤ es.length) : EdsOk es := by
  have n7 := ok.n7
  rw [List.length_append] at n7
  have n7 : es.length + 1 ≤ 7 := n7
  have at_ : ∀ {i : Nat} {a : Ed}, es[i]? = some a → (es ++ [e])[i]? = some a := fun {i a} h => by rw [List.getElem?_append_left (List.getElem?_eq_some_iff.mp h).1]; exact h
  exact ⟨n1, by omega, fun a ha => ok.mo a (List.mem_append.mpr (.inl ha)), fun i a b ha hb => ok.inc i a b (at_ ha) (at_ hb), fun a ha b hb => ok.rl a (List.mem_append.mpr (.inl ha)) b (List.mem_append.mpr (.inl hb))⟩
theorem put_e {l l2 : Addr} : putF ("_editions" : Str) (V.ref l2) [(("_editions" : Str), V.ref l)] = [(("_editions" : Str), V.ref l2)] := by
  show (if (("_editions" : Str)) = ("_editions" : Str) then _ else _) = _
  rw [if_pos rfl]
def Ed.mc (e : Ed) : Int × Ct := (e.m, e.c)
def wrF (i : Nat) (a b c : Option (Int × Ct)) : Bool := match a, b with
  | some e, some e0 => (decide (0 < i) && (match c with | some b => decide (e.1 ≤ b.1) | none => false)) || !decide (e.2.us.map (·.z) = e0.2.us.map (·.z))
  | _, _ => false
theorem wrE_F {es : List Ed} {i : Nat} : wrE es i = wrF i ((es[i]?).map Ed.mc) ((es[0]?).map Ed.mc) ((es[i - 1]?).map Ed.mc) := by
  unfold wrE wrF
  cases es[i]? <;> cases es[0]? <;> cases es[i - 1]? <;> rfl
theorem fwE_mc {es es' : List Ed} (h : es.map Ed.mc = es'.map Ed.mc) : fwE es = fwE es' := by
  have l := congrArg List.length h
  rw [List.length_map, List.length_map] at l
  unfold fwE
  rw [l]
  congr 1
  funext i
  rw [wrE_F, wrE_F, ← List.getElem?_map, ← List.getElem?_map, ← List.getElem?_map, h, List.getElem?_map, List.getElem?_map, List.getElem?_map]
theorem fwE_t {es : List Ed} {m : Int} {t t' x : Addr} {c : Ct} : fwE (es ++ [⟨m, t, x, c⟩]) = fwE (es ++ [⟨m, t', x, c⟩]) := fwE_mc (by rw [List.map_append, List.map_append]; rfl)
/-- what `add` may end in -/
@[irreducible] def spPAddX (PC C CO CP : Addr) : Sp := fun vs H Q E => ∃ (p : Addr) (m : Int) (x : Addr) (es : List Ed) (c : Ct), vs = [.ref p, .int m, .ref x] ∧ PlX PC C H p es ∧ CAt (fun _ => True) C (hid [p] H) x c ∧ CtOk c ∧ 0 ≤ m ∧ m ≤ LM ∧
  ((es.length = 7 ∧ ∀ d H', H d = none → Same H H' → H' d = some (.xd [(("limit" : Str), .int 7)]) → E (.ref CO) (some d) H') ∨
   (es.length < 7 ∧ fwE (es ++ [⟨m, 0, x, c⟩]) = none ∧ ∀ t H', SameP p H H' → PlX PC C H' p (es ++ [⟨m, t, x, c⟩]) → Q (.int es.length) H') ∨
   (es.length < 7 ∧ fwE (es ++ [⟨m, 0, x, c⟩]) ≠ none ∧ ∀ d H', H d = none → Same H H' → H' d = some (.xd [(("number" : Str), .int es.length)]) → E (.ref CP) (some d) H'))
/-- what `drop` may end in -/
@[irreducible] def spPDropX (PC C CE : Addr) : Sp := fun vs H Q E => ∃ (p : Addr) (es : List Ed), vs = [.ref p] ∧ PlX PC C H p es ∧
  ((es.length = 1 ∧ ∀ d H', H d = none → Same H H' → H' d = some (.xd [(("number" : Str), .int 0)]) → E (.ref CE) (some d) H') ∨
   (∃ es' e, es = es' ++ [e] ∧ 1 ≤ es'.length ∧ ∀ H', SameP p H H' → PlX PC C H' p es' → Q .non H'))
section
variable {P : Program} {w : World} {K : PySem.W.Frag} {mg : Str → Option Value} {base : Heap} {C PC CU CE CO CP RC FC KC : Addr}
theorem sc_Plan_add : FnScope ["self", "moment", "contents", "number", "editions"] ["self", "moment", "contents"] (defScope s_Plan_add) := ⟨rfl, rfl, rfl, by decide +kernel, rfl, by decide +kernel, by decide +kernel⟩
theorem ok_paddx (D : MetK K PC "add" "Plan.add" s_Plan_add) (T : TxP K mg) (PT : PTx K mg PC) (G_first_wrong : Cal P w K mg base CX0 5 "_first_wrong" (spFwB C)) (G_LimitExceeded : ExnB P w K mg base 1 "LimitExceeded" CO (spX CO "limit")) (G_InvalidPlan : ExnB P w K mg base 1 "InvalidPlan" CP (spX CP "number")) : Met P w K mg base (L2.CX P w) 7 PC "add" (spPAddX PC C CO CP) := by
  refine D.metX sc_Plan_add (fun _ _ _ _ _ _ us hl => match us, hl with | [_, _, _], _ => rfl) (fun vs H Q E h => ?_) fun f cdv A outer s H vs Q E hr h => ?_
  · unfold spPAddX at h; obtain ⟨p, m, x, es, c, rfl, _⟩ := h; rfl
  · unfold spPAddX at h; obtain ⟨p, m, x, es, c, rfl, pl, at_, ok, m0, mL, k⟩ := h
    refine ⟨_, (pss_cons (ps_set (i := 3) sc_Plan_add.nd rfl (Or.inl rfl) (pe_callB call_len_seq (by rfl) T.b_len (by decide +kernel) (pa_cons (pe_fld (pv 0) rfl) pa_nil)))
      (pss_cons (ps_if (pt_cmpR op_eq (pv 3) (pe_gc rfl T.gMOST_EDITIONS) (nomark _)) (pss_one (ps_raise rfl (takes_of rfl rfl rfl rfl) (pmk_b G_LimitExceeded hr (by decide) rfl (pa_cons (pe_gc rfl T.gMOST_EDITIONS) pa_nil)))) pss_nil)
      (pss_cons (ps_set (i := 4) sc_Plan_add.nd rfl (Or.inl rfl) (pe_lst (StX.pa_star (pe_fld (pv 0) rfl) (pa_cons (pe_tup (pa_cons (pv 1) (pa_cons (pv 2) pa_nil))) pa_nil))))
      (pss_cons (ps_if (pt_cmpR op_notN (pe_c G_first_wrong hr (by decide) rfl (pa_cons (pv 4) pa_nil)) pe_non (nomark _)) (pss_one (ps_raise rfl (takes_of rfl rfl rfl rfl) (pmk_b G_InvalidPlan hr (by decide) rfl (pa_cons (pv 3) pa_nil)))) pss_nil)
      (pss_cons (ps_fld (pv 0) (pv 4) rfl)
      (pss_one (ps_ret (pv 3)))))))), ?_⟩
    obtain ⟨dx, l, e1, e2h⟩ := id pl.ex
    have e2 := (hid_get e2h).1
    have n7 := pl.ok.n7
    refine ⟨_, rfl, p, PC, dx, _, .ref l, rfl, e1, PT.cl, PT.ne, get_e l, l, _, rfl, .inl (SqL.of e2), ?_⟩
    rw [List.length_map]
    by_cases c7 : es.length = 7
    · refine ⟨_, rfl, rfl, _, rfl, iteTe (decide_eq_true (by rw [c7]; rfl)) ?_⟩
      rcases k with ⟨_, k⟩ | ⟨l7, _⟩ | ⟨l7, _⟩
      · exact x_read fun d nd => k d _ nd (same_new nd) upd_same
      · omega
      · omega
    refine ⟨_, rfl, rfl, _, rfl, iteFe (decide_eq_false fun z => by have := V.int.inj z; omega) ?_⟩
    refine ⟨_, rfl, p, PC, dx, _, .ref l, rfl, e1, PT.cl, PT.ne, get_e l, l, _, rfl, .inr (SqL.of e2), _, rfl, _, rfl, by show 2 ≤ sizeLine; decide, fun t nt => ⟨by rw [List.length_append, List.length_map, sizeLine_eq]; show es.length + 1 ≤ _; omega, fun l2 n2 => ?_⟩⟩
    have g1 := same_new (o := .tup [.int m, .ref x]) nt
    have e1t : upd H t (.tup [.int m, .ref x]) t = some (.tup [.int m, .ref x]) := upd_same
    generalize upd H t (.tup [.int m, .ref x]) = H1 at *
    have g2 := same_new (o := .lst (es.map Ed.v ++ [V.ref t])) n2
    have el2 : upd H1 l2 (.lst (es.map Ed.v ++ [V.ref t])) l2 = some (.lst ((es ++ [(⟨m, t, x, c⟩ : Ed)]).map Ed.v)) := by rw [List.map_append]; exact upd_same
    generalize upd H1 l2 (.lst (es.map Ed.v ++ [V.ref t])) = H2 at *
    have s2 := g1.trans g2
    have tp : t ≠ p := fun z => by rw [z, e1] at nt; cases nt
    have l2p : l2 ≠ p := fun z => by have := g1 _ _ e1; rw [z, this] at n2; cases n2
    have mo : ∀ e ∈ es ++ [(⟨m, t, x, c⟩ : Ed)], 0 ≤ e.m ∧ e.m ≤ LM := fun e he => by
      rcases List.mem_append.mp he with h | h
      · exact pl.ok.mo e h
      · rw [List.mem_singleton.mp h]; exact ⟨m0, mL⟩
    have n1 : 1 ≤ (es ++ [(⟨m, t, x, c⟩ : Ed)]).length := by rw [List.length_append]; show 1 ≤ es.length + 1; omega
    have eds : ∀ e ∈ es ++ [(⟨m, t, x, c⟩ : Ed)], EdAt C H2 e := fun e he => by
      rcases List.mem_append.mp he with h | h
      · exact (pl.eds e h).same (hid_same.trans s2)
      · rw [List.mem_singleton.mp h]; exact ⟨g2 _ _ e1t, at_.same (hid_same.trans s2), ok⟩
    rcases k with ⟨l7, _⟩ | ⟨l7, no, k⟩ | ⟨l7, yes, k⟩
    · omega
    · rw [fwE_t (t' := t)] at no
      have eo : EdsOk (es ++ [(⟨m, t, x, c⟩ : Ed)]) := fwE_ok n1 (by rw [List.length_append]; show es.length + 1 ≤ 7; omega) mo no
      refine ⟨_, rfl, ?_⟩
      unfold spFwB
      refine ⟨l2, _, rfl, el2, eds, n1, mo, fun _ H3 s3 => ?_, fun n e => by rw [no] at e; cases e⟩
      refine ⟨rfl, _, rfl, iteFe (by rw [decide_eq_true rfl]; rfl) ?_⟩
      have s03 := s2.trans s3
      refine ⟨_, rfl, _, rfl, p, PC, dx, _, rfl, s03 _ _ e1, PT.cl, PT.ne, by show 1 < 1000; decide, _, rfl, ?_⟩
      rw [put_e]
      have sP : SameP p H (upd H3 p (.ins PC dx [(("_editions" : Str), V.ref l2)])) := fun q o e n => by rw [upd_ne n]; exact s03 _ _ e
      have at3 : ∀ {q : Addr} {o : HO}, H3 q = some o → q ≠ p → hid [p] (upd H3 p (.ins PC dx [(("_editions" : Str), V.ref l2)])) q = some o := fun e n => hid_in (by rw [upd_ne n]; exact e) fun z => n (List.mem_singleton.mp z)
      refine k t _ sP ⟨⟨dx, l2, upd_same, at3 (s3 _ _ el2) l2p⟩, fun e he => ?_, eo⟩
      rcases List.mem_append.mp he with h | h
      · exact (pl.eds e h).same sP.hid
      · rw [List.mem_singleton.mp h]; exact ⟨at3 ((g2.trans s3) _ _ e1t) tp, at_.same sP.hid, ok⟩
    · rw [fwE_t (t' := t)] at yes
      refine ⟨_, rfl, ?_⟩
      unfold spFwB
      refine ⟨l2, _, rfl, el2, eds, n1, mo, fun no => absurd no yes, fun n e H3 s3 => ?_⟩
      refine ⟨rfl, _, rfl, iteTe (by rw [decide_eq_false (fun z => by cases z)]; rfl) ?_⟩
      exact ⟨_, rfl, x_read fun d nd => k d _ (Same.free (s2.trans s3) nd) ((s2.trans s3).trans (same_new nd)) upd_same⟩
theorem sc_Plan_drop : FnScope ["self"] ["self"] (defScope s_Plan_drop) := ⟨rfl, rfl, rfl, by decide +kernel, rfl, by decide +kernel, by decide +kernel⟩
theorem ok_pdropx (D : MetK K PC "drop" "Plan.drop" s_Plan_drop) (T : TxP K mg) (PT : PTx K mg PC) (G_UnknownEdition : ExnB P w K mg base 1 "UnknownEdition" CE (spX CE "number")) : Met P w K mg base (L2.CX P w) 3 PC "drop" (spPDropX PC C CE) := by
  refine D.metX sc_Plan_drop (fun _ _ _ _ _ _ us hl => match us, hl with | [_], _ => rfl) (fun vs H Q E h => ?_) fun f cdv A outer s H vs Q E hr h => ?_
  · unfold spPDropX at h; obtain ⟨p, es, rfl, _⟩ := h; rfl
  · unfold spPDropX at h; obtain ⟨p, es, rfl, pl, k⟩ := h
    refine ⟨_, (pss_cons (ps_if (pt_cmpR op_eq (pe_callB call_len_seq (by rfl) T.b_len (by decide +kernel) (pa_cons (pe_fld (pv 0) rfl) pa_nil)) pe_int (nomark _)) (pss_one (ps_raise rfl (takes_of rfl rfl rfl rfl) (pmk_b G_UnknownEdition hr (by decide) rfl (pa_cons pe_int pa_nil)))) pss_nil)
      (pss_one (ps_fld (pv 0) (pe_slice sl_list (pe_fld (pv 0) rfl) po_none (po_some (pe_un un_neg pe_int))) rfl))), ?_⟩
    obtain ⟨dx, l, e1, e2h⟩ := id pl.ex
    have e2 := (hid_get e2h).1
    refine ⟨_, rfl, p, PC, dx, _, .ref l, rfl, e1, PT.cl, PT.ne, get_e l, l, _, rfl, .inl (SqL.of e2), ?_⟩
    rw [List.length_map]
    rcases k with ⟨l1, k⟩ | ⟨es', e, rfl, n1, k⟩
    · refine ⟨rfl, _, rfl, iteTe (decide_eq_true (by rw [l1]; rfl)) ?_⟩
      exact x_read fun d nd => k d _ nd (same_new nd) upd_same
    have en : (es' ++ [e]).length = es'.length + 1 := List.length_append ..
    rw [en]
    refine ⟨rfl, _, rfl, iteFe (decide_eq_false fun z => by have := V.int.inj z; omega) ?_⟩
    refine ⟨_, rfl, p, PC, dx, _, .ref l, rfl, e1, PT.cl, PT.ne, get_e l, 1, rfl, -1, rfl, l, _, rfl, SqL.of e2, fun l2 n2 => ?_⟩
    rw [show cutV ((es' ++ [e]).map Ed.v) none (some (-1)) = es'.map Ed.v by rw [List.map_append]; exact cut_last]
    have g2 := same_new (o := .lst (es'.map Ed.v)) n2
    have el2 : upd H l2 (.lst (es'.map Ed.v)) l2 = some (.lst (es'.map Ed.v)) := upd_same
    generalize upd H l2 (.lst (es'.map Ed.v)) = H3 at *
    have l2p : l2 ≠ p := fun z => by rw [z, e1] at n2; cases n2
    refine ⟨_, rfl, p, PC, dx, _, rfl, g2 _ _ e1, PT.cl, PT.ne, by show 1 < 1000; decide, ?_⟩
    rw [put_e]
    have sP : SameP p H (upd H3 p (.ins PC dx [(("_editions" : Str), V.ref l2)])) := fun q o e n => by rw [upd_ne n]; exact g2 _ _ e
    exact k _ sP ⟨⟨dx, l2, upd_same, hid_in (by rw [upd_ne l2p]; exact el2) fun z => l2p (List.mem_singleton.mp z)⟩, fun a ha => (pl.eds a (List.mem_append.mpr (.inl ha))).same sP.hid, pl.ok.init n1⟩
end
end K09
namespace K09
open PySem PySem.Spec PyProof.Rows L2 Jg
local macro_rules | `(tactic| walk_at "rd1") => `(tactic| (first
  | refine ⟨_, rfl, ?_⟩
  | refine ⟨_, _, rfl, rfl, ?_⟩
  | refine ⟨_, _, rfl, ?_⟩
  | refine ⟨rfl, ?_⟩
  | (refine ⟨show (0 : Int) < _ by omega, ?_⟩)
  | (refine ⟨Or.inl ⟨by omega, by omega⟩, ?_⟩)
  | (refine ⟨Or.inr ⟨by omega, by omega⟩, ?_⟩)
  | (refine ⟨(⟨by decide, by decide, by decide⟩ : CPow _ _), ?_⟩)
  | refine Or.inl ⟨_, rfl, ?_⟩
  | refine Or.inr ⟨_, rfl, ?_⟩
  | fail "rd"))
local macro_rules | `(tactic| walk_at "rd") => `(tactic| repeat' walk_at "rd1")
open K09C (Ct CAt CtOk hid hid_in hid_get hid_same)
@[irreducible] def spPSetX (PC C CE CP : Addr) : Sp := fun vs H Q E => ∃ (p : Addr) (n : Nat) (e : Ed) (es : List Ed), vs = [.ref p, .int n, .ref e.t] ∧ PlX PC C H p es ∧ EdAt C (hid [p] H) e ∧ 0 ≤ e.m ∧ e.m ≤ LM ∧
  ((n = es.length ∧ ∀ d H', H d = none → Same H H' → H' d = some (.xd [(("number" : Str), .int n)]) → E (.ref CE) (some d) H') ∨
   (n < es.length ∧ fwE (es.set n e) = none ∧ ∀ es' H', SameP p H H' → PlX PC C H' p es' → es'.map Ed.k = (es.set n e).map Ed.k → Q .non H') ∨
   (n < es.length ∧ fwE (es.set n e) ≠ none ∧ ∀ d H', H d = none → Same H H' → H' d = some (.xd [(("number" : Str), .int n)]) → E (.ref CP) (some d) H'))
@[irreducible] def spPGet (PC C : Addr) : Sp := fun vs H Q _ => ∃ (p : Addr) (es : List Ed) (n : Nat) (e : Ed), vs = [.ref p, .int n] ∧ PlAt PC C H p es ∧ es[n]? = some e ∧ Q (.ref e.t) H
section
variable {P : Program} {w : World} {K : PySem.W.Frag} {mg : Str → Option Value} {base : Heap} {C PC CU CE CO CP RC FC KC : Addr}
theorem sc_Plan_getitem : FnScope ["self", "at"] ["self", "at"] (defScope s_Plan_getitem) := ⟨rfl, rfl, rfl, by decide +kernel, rfl, by decide +kernel, by decide +kernel⟩
theorem sc_Plan_setitem : FnScope ["self", "at", "worth", "editions", "moment", "contents"] ["self", "at", "worth"] (defScope s_Plan_setitem) := ⟨rfl, rfl, rfl, by decide +kernel, rfl, by decide +kernel, by decide +kernel⟩
theorem ok_psetx (D : MetK K PC "__setitem__" "Plan.__setitem__" s_Plan_setitem) (T : TxP K mg) (PT : PTx K mg PC) (M_check : Met P w K mg base (L2.CX P w) 4 PC "_check" (spPCheck K PC C CE)) (G_first_wrong : Cal P w K mg base CX0 5 "_first_wrong" (spFwB C)) (G_InvalidPlan : ExnB P w K mg base 1 "InvalidPlan" CP (spX CP "number")) : Met P w K mg base (L2.CX P w) 7 PC "__setitem__" (spPSetX PC C CE CP) := by
  refine D.metX sc_Plan_setitem (fun _ _ _ _ _ _ us hl => match us, hl with | [_, _, _], _ => rfl) (fun vs H Q E h => ?_) fun f cdv A outer s H vs Q E hr h => ?_
  · unfold spPSetX at h; obtain ⟨p, n, e, es, rfl, _⟩ := h; rfl
  · unfold spPSetX at h; obtain ⟨p, n, e, es, rfl, pl, ae, m0, mL, k⟩ := h
    refine ⟨_, (pss_cons (ps_expr (pe_mS M_check PT.cl (takes_of rfl rfl rfl rfl) hr (by decide) (pv 0) (pa_cons (pv 1) pa_nil)))
      (pss_cons (ps_set (i := 3) sc_Plan_setitem.nd rfl (Or.inl rfl) (pe_callTy call_list_of (by rfl) T.b_list (by decide +kernel) (pa_cons (pe_fld (pv 0) rfl) pa_nil)))
      (pss_cons (ps_asg (pv 2) (pg_sub (pv 3) (pv 1) set_list))
      (pss_cons (ps_if (pt_cmpR op_notN (pe_c G_first_wrong hr (by decide) rfl (pa_cons (pv 3) pa_nil)) pe_non (nomark _)) (pss_one (ps_raise rfl (takes_of rfl rfl rfl rfl) (pmk_b G_InvalidPlan hr (by decide) rfl (pa_cons (pv 1) pa_nil)))) pss_nil)
      (pss_one (ps_fld (pv 0) (pe_lc (own := [("moment", 4), ("contents", 5)]) (g := gTup K 2 (gCons (gName 4) (gCons (gName 5) gNil))) (by rfl) sc_Plan_setitem.nd (pi_list (pv 3)) (blkOk_by (own := [("moment", 4), ("contents", 5)]) (N := ["self", "at", "worth", "editions", "moment", "contents"]) (sc := defScope s_Plan_setitem) (by decide +kernel)) (fun _ _ _ _ _ => pg_tup rfl (pgs_cons (pg_name (i := 4) sc_Plan_setitem.nd rfl (Or.inl rfl)) (pgs_cons (pg_name (i := 5) sc_Plan_setitem.nd rfl (Or.inl rfl)) pgs_nil))) (fun _ _ _ _ _ => pts_nil) (fun _ _ _ _ _ => (pe_tup (pa_cons (pv 4) (pa_cons (pv 5) pa_nil))))) rfl)))))), ?_⟩
    obtain ⟨dx, l, e1, e2h⟩ := id pl.ex
    have e2 := (hid_get e2h).1
    have n7 := pl.ok.n7
    refine ⟨_, rfl, p, dx, _, rfl, e1, get_eno _ (by decide +kernel), _, rfl, p, es, .int n, rfl, pl.pl, ?_⟩
    by_cases nl : n < es.length
    · refine .inl ⟨n, rfl, nl, ?_⟩
      refine ⟨_, rfl, p, PC, dx, _, .ref l, rfl, e1, PT.cl, PT.ne, get_e l, l, _, rfl, .inl (SqL.of e2), fun l2 n2 => ?_⟩
      have g2 := same_new (o := .lst (es.map Ed.v)) n2
      have l2p : l2 ≠ p := fun z => by rw [z, e1] at n2; cases n2
      refine ⟨_, rfl, _, rfl, _, rfl, l2, es.map Ed.v, (n : Nat), n, rfl, rfl, upd_same, ?_, ?_⟩
      · unfold ixN
        rw [if_pos (by omega), if_pos (by rw [List.length_map]; omega), Int.toNat_natCast]
      rw [upd_upd]
      have g3 : Same H (upd H l2 (.lst ((es.map Ed.v).set n (.ref e.t)))) := same_new n2
      have el2 : upd H l2 (.lst ((es.map Ed.v).set n (.ref e.t))) l2 = some (.lst ((es.set n e).map Ed.v)) := by rw [upd_same, List.map_set]; rfl
      clear g2
      generalize upd H l2 (.lst ((es.map Ed.v).set n (.ref e.t))) = H2 at *
      have ln : (es.set n e).length = es.length := List.length_set
      have mo : ∀ a ∈ es.set n e, 0 ≤ a.m ∧ a.m ≤ LM := fun a ha => by
        rcases List.mem_or_eq_of_mem_set ha with h | h
        · exact pl.ok.mo a h
        · rw [h]; exact ⟨m0, mL⟩
      have edh : ∀ a ∈ es.set n e, EdAt C (hid [p] H) a := fun a ha => by
        rcases List.mem_or_eq_of_mem_set ha with h | h
        · exact pl.eds a h
        · rw [h]; exact ae
      have eds : ∀ a ∈ es.set n e, EdAt C H2 a := fun a ha => (edh a ha).same (hid_same.trans g3)
      have n1 : 1 ≤ (es.set n e).length := by rw [ln]; exact pl.ok.n1
      rcases k with ⟨l7, _⟩ | ⟨_, no, k⟩ | ⟨_, yes, k⟩
      · omega
      · have eo : EdsOk (es.set n e) := fwE_ok n1 (by rw [ln]; exact n7) mo no
        refine ⟨_, rfl, ?_⟩
        unfold spFwB
        refine ⟨l2, _, rfl, el2, eds, n1, mo, fun _ H3 s3 => ?_, fun n e => by rw [no] at e; cases e⟩
        refine ⟨rfl, _, rfl, iteFe (by rw [decide_eq_true rfl]; rfl) ?_⟩
        have s03 := g3.trans s3
        have el3 := s3 _ _ el2
        have at3 : ∀ a ∈ es.set n e, EdAt C H3 a := fun a ha => (eds a ha).same s3
        refine ⟨_, rfl, l2, rfl, ⟨_, SqL.of el3⟩, fun D nD => ?_⟩
        refine lc_list (K := K) (a := l2) (xs := (es.set n e).map Ed.v) (fun i H' => ∃ es', H' D = some (.lst (es'.map Ed.v)) ∧ es'.map Ed.k = ((es.set n e).take i).map Ed.k ∧ (∀ a ∈ es', H' a.t = some (.tup [.int a.m, .ref a.x])) ∧ Same H3 H') ⟨[], upd_same, rfl, (fun _ h => nomatch h), same_new nD⟩ (fun i H' _ ⟨_, _, _, _, s⟩ => SqL.of (s _ _ el3)) ?_ ?_
        · rintro i y H' hy ⟨es', eD, eP, cP, sP⟩
          obtain ⟨a, ea, rfl⟩ := ed_at hy
          have aa := (at3 a (List.mem_of_getElem? ea)).same sP
          have tk : (es.set n e).take (i + 1) = (es.set n e).take i ++ [a] := by rw [List.take_succ, ea]; rfl
          refine ⟨a.t, _, rfl, SqT.of aa.tp, rfl, _, _, rfl, _, _, rfl, rfl, rfl, K09C.yes_if ?_⟩
          refine ⟨_, rfl, _, rfl, by show 2 ≤ sizeLine; decide, fun t nt => ?_⟩
          have pll : es'.length = ((es.set n e).take i).length := by
            have z1 := congrArg List.length eP
            rw [List.length_map, List.length_map] at z1
            exact z1
          have pm : es'.length ≤ 7 := by rw [pll, List.length_take]; omega
          refine ⟨_, (same_new nt) _ _ eD, by rw [List.length_map, sizeLine_eq]; omega, es' ++ [⟨a.m, t, a.x, a.c⟩], by rw [upd_same, List.map_append]; rfl, by rw [List.map_append, eP, tk, List.map_append]; rfl, fun q hq => ?_, fun q o z => ?_⟩
          · rcases List.mem_append.mp hq with hq | hq
            · have nq : q.t ≠ D := fun z => by have := cP q hq; rw [z, eD] at this; cases this
              rw [upd_ne nq]
              exact same_new nt _ _ (cP q hq)
            · obtain rfl := List.mem_singleton.mp hq
              have nq : t ≠ D := fun z => by rw [z, eD] at nt; cases nt
              show upd _ D _ t = _
              rw [upd_ne nq]
              exact upd_same
          · have nq : q ≠ D := ne_of_none z nD
            rw [upd_ne nq]
            exact same_new nt _ _ (sP _ _ z)
        · rintro H' ⟨es', eD, eP, cP, sP⟩
          rw [List.length_map, List.take_length] at eP
          have s0 := s03.trans sP
          refine ⟨_, rfl, p, PC, dx, _, rfl, s0 _ _ e1, PT.cl, PT.ne, by show 1 < 1000; decide, ?_⟩
          rw [put_e]
          have sPP : SameP p H (upd H' p (.ins PC dx [(("_editions" : Str), V.ref D)])) := fun q o e n => by rw [upd_ne n]; exact s0 _ _ e
          have nDp : D ≠ p := fun z => by rw [z, s0 _ _ e1] at eD; cases eD
          have tn : ∀ a ∈ es', a.t ≠ p := fun a ha z => by have := cP a ha; rw [z, s0 _ _ e1] at this; cases this
          have at5 : ∀ {q : Addr} {o : HO}, H' q = some o → q ≠ p → hid [p] (upd H' p (.ins PC dx [(("_editions" : Str), V.ref D)])) q = some o := fun e n => hid_in (by rw [upd_ne n]; exact e) fun z => n (List.mem_singleton.mp z)
          refine k es' _ sPP ⟨⟨dx, D, upd_same, at5 eD nDp⟩, fun a ha => ?_, eo.of eP⟩ eP
          have me : Ed.k a ∈ (es.set n e).map Ed.k := eP ▸ List.mem_map_of_mem ha
          obtain ⟨q, hq, eq⟩ := List.mem_map.mp me
          exact (edh q hq).of eq sPP.hid (at5 (cP a ha) (tn a ha))
      · refine ⟨_, rfl, ?_⟩
        unfold spFwB
        refine ⟨l2, _, rfl, el2, eds, n1, mo, fun no => absurd no yes, fun i ei H3 s3 => ?_⟩
        refine ⟨rfl, _, rfl, iteTe (by rw [decide_eq_false (fun z => by cases z)]; rfl) ?_⟩
        exact ⟨_, rfl, x_read fun d nd => k d _ (Same.free (g3.trans s3) nd) ((g3.trans s3).trans (same_new nd)) upd_same⟩
    · rcases k with ⟨rfl, k⟩ | ⟨l7, _⟩ | ⟨l7, _⟩
      · exact .inr ⟨.inl ⟨(es.length : Nat), rfl, by rw [decide_eq_true (show (0 : Int) ≤ (es.length : Nat) by omega), decide_eq_false (show ¬ ((es.length : Nat) : Int) ≤ (es.length : Int) - 1 by omega)]; rfl⟩, k⟩
      · omega
      · omega
end
end K09
namespace K09
open PySem PySem.Spec PyProof.Rows L2 Jg
local macro_rules | `(tactic| walk_at "rd1") => `(tactic| (first
  | refine ⟨_, rfl, ?_⟩
  | refine ⟨_, _, rfl, rfl, ?_⟩
  | refine ⟨_, _, rfl, ?_⟩
  | refine ⟨rfl, ?_⟩
  | (refine ⟨show (0 : Int) < _ by omega, ?_⟩)
  | (refine ⟨Or.inl ⟨by omega, by omega⟩, ?_⟩)
  | (refine ⟨Or.inr ⟨by omega, by omega⟩, ?_⟩)
  | (refine ⟨(⟨by decide, by decide, by decide⟩ : CPow _ _), ?_⟩)
  | refine Or.inl ⟨_, rfl, ?_⟩
  | refine Or.inr ⟨_, rfl, ?_⟩
  | fail "rd"))
local macro_rules | `(tactic| walk_at "rd") => `(tactic| repeat' walk_at "rd1")
open K09C (Ct CAt CtOk)
/-- the last of the first j editions that is published -/
def lastI (es : List Ed) (m : Int) : Nat → Option Nat
  | 0 => none
  | j + 1 => match es[j]? with
    | some e => if e.m ≤ m then some j else lastI es m j
    | none => lastI es m j
def optV : Option Nat → V
  | none => .non
  | some n => .int n
/-- how many are published -/
def cntI (es : List Ed) (m : Int) : Nat := (es.filter fun e => decide (e.m ≤ m)).length
theorem lastI_cnt {es : List Ed} (ok : EdsOk es) {m : Int} : ∀ j, j ≤ es.length → lastI es m j = if cntI (es.take j) m = 0 then none else some (cntI (es.take j) m - 1)
  | 0, _ => by rfl
  | j + 1, h => by
    obtain ⟨e, he⟩ : ∃ e, es[j]? = some e := ⟨_, List.getElem?_eq_getElem (by omega)⟩
    have ih := lastI_cnt ok (m := m) j (by omega)
    have tk : es.take (j + 1) = es.take j ++ [e] := by rw [List.take_succ, he]; rfl
    show (match es[j]? with | some e => if e.m ≤ m then some j else lastI es m j | none => lastI es m j) = _
    rw [he]
    show (if e.m ≤ m then some j else lastI es m j) = _
    have up : ∀ i a, i < j → es[i]? = some a → a.m < e.m := by
      have step : ∀ d i a b, es[i]? = some a → es[i + 1 + d]? = some b → a.m < b.m := fun d => by
        induction d with
        | zero => intro i a b ha hb; exact ok.inc i a b ha hb
        | succ d ih =>
          intro i a b ha hb
          have lb := (List.getElem?_eq_some_iff.mp hb).1
          obtain ⟨c, hc⟩ : ∃ c, es[i + 1 + d]? = some c := ⟨_, List.getElem?_eq_getElem (by omega)⟩
          have q1 := ih i a c ha hc
          have q2 := ok.inc (i + 1 + d) c b hc hb
          omega
      intro i a hi ha
      exact step (j - i - 1) i a e ha (by rw [show i + 1 + (j - i - 1) = j by omega]; exact he)
    have lj : (es.take j).length = j := by rw [List.length_take]; omega
    by_cases c : e.m ≤ m
    · rw [if_pos c]
      have all : (es.take j).filter (fun e => decide (e.m ≤ m)) = es.take j := List.filter_eq_self.mpr fun a ha => by
        obtain ⟨i, hi⟩ := List.getElem?_of_mem ha
        have li := (List.getElem?_eq_some_iff.mp hi).1
        rw [List.getElem?_take, if_pos (by omega)] at hi
        have := up i a (by omega) hi
        exact decide_eq_true (by omega)
      have cn : cntI (es.take (j + 1)) m = j + 1 := by
        unfold cntI
        rw [tk, List.filter_append, all, List.length_append, lj]
        show j + (List.filter _ [e]).length = _
        rw [List.filter_cons_of_pos (by exact decide_eq_true c)]; rfl
      rw [cn, if_neg (by omega)]; rfl
    · rw [if_neg c, ih]
      have cn : cntI (es.take (j + 1)) m = cntI (es.take j) m := by
        unfold cntI
        rw [tk, List.filter_append, List.length_append]
        show _ + (List.filter _ [e]).length = _
        rw [List.filter_cons_of_neg (by rw [decide_eq_false c]; decide)]; rfl
      rw [cn]
@[irreducible] def spCur (K : PySem.W.Frag) (PC C CM : Addr) : Sp := fun vs H Q E => ∃ (p : Addr) (y : V) (es : List Ed), vs = [.ref p, y] ∧ PlAt PC C H p es ∧
  ((∃ m : Int, y = .int m ∧ 0 ≤ m ∧ m ≤ LM ∧ ∀ H', Same H H' → Q (optV (lastI es m es.length)) H') ∨
   (K09F.BadR K H 0 LM y ∧ ∀ d H', H d = none → Same H H' → H' d = some (.xd [(("value" : Str), y)]) → E (.ref CM) (some d) H'))
@[irreducible] def spTwin (PC C : Addr) : Sp := fun vs H Q _ => ∃ (p : Addr) (es : List Ed), vs = [.ref p] ∧ PlAt PC C H p es ∧ ∀ x es' H', H x = none → Same H H' → PlAt PC C H' x es' → es'.map Ed.k = es.map Ed.k → Q (.ref x) H'
section
variable {P : Program} {w : World} {K : PySem.W.Frag} {mg : Str → Option Value} {base : Heap} {C PC CU CE CO CP CM RC FC KC : Addr}
theorem sc_Plan_twin : FnScope ["self"] ["self"] (defScope s_Plan_twin) := ⟨rfl, rfl, rfl, by decide +kernel, rfl, by decide +kernel, by decide +kernel⟩
theorem ok_twin (D : MetK K PC "twin" "Plan.twin" s_Plan_twin) (PT : PTx K mg PC) (M_Plan : Mak P w K mg base CX0 6 "Plan" PC (spPInit PC C)) : Met P w K mg base CX0 8 PC "twin" (spTwin PC C) := by
  refine D.met sc_Plan_twin (fun _ _ _ _ _ _ us hl => match us, hl with | [_], _ => rfl) (fun vs H Q E h => ?_) fun f cdv A outer s H vs Q E hr h => ?_
  · unfold spTwin at h; obtain ⟨p, es, rfl, _⟩ := h; rfl
  · unfold spTwin at h; obtain ⟨p, es, rfl, pl, k⟩ := h
    obtain ⟨⟨dx, l, e1, e2⟩, at_, ok⟩ := id pl
    refine ⟨_, (pss_one (ps_ret (pe_mk M_Plan hr (by decide) rfl (pa_cons (pe_fld (pv 0) rfl) pa_nil)))), ?_⟩
    refine ⟨_, rfl, p, PC, dx, _, .ref l, rfl, e1, PT.cl, PT.ne, get_e l, ?_⟩
    intro x dx1 nx ndx nex
    exact ⟨x, dx1, l, es, H, rfl, upd_same, same_new' (same_new ndx) (by rw [upd_ne (Ne.symm nex)]; exact nx), nx, e2, at_, ok, fun H' es' pl' ek sH => ⟨rfl, k x es' H' nx sH pl' ek⟩⟩
theorem sc_Plan_current : FnScope ["self", "moment", "found", "number", "published", "_"] ["self", "moment"] (defScope s_Plan_current) := ⟨rfl, rfl, rfl, by decide +kernel, rfl, by decide +kernel, by decide +kernel⟩
theorem ok_cur (D : MetK K PC "current" "Plan.current" s_Plan_current) (T : TxP K mg) (PT : PTx K mg PC) (G_is_moment : Cal P w K mg base CX0 3 "is_moment" (spMom K)) (G_InvalidMoment : ExnB P w K mg base 1 "InvalidMoment" CM (spX CM "value")) : Met P w K mg base (L2.CX P w) 4 PC "current" (spCur K PC C CM) := by
  refine D.metX sc_Plan_current (fun _ _ _ _ _ _ us hl => match us, hl with | [_, _], _ => rfl) (fun vs H Q E h => ?_) fun f cdv A outer s H vs Q E hr h => ?_
  · unfold spCur at h; obtain ⟨p, y, es, rfl, _⟩ := h; rfl
  · unfold spCur at h; obtain ⟨p, y, es, rfl, pl, k⟩ := h
    refine ⟨_, (pss_cons (ps_if (pt_not (pt_val (pe_c G_is_moment hr (by decide) rfl (pa_cons (pv 1) pa_nil)))) (pss_one (ps_raise rfl (takes_of rfl rfl rfl rfl) (pmk_b G_InvalidMoment hr (by decide) rfl (pa_cons (pv 1) pa_nil)))) pss_nil)
      (pss_cons (ps_set (i := 2) sc_Plan_current.nd rfl (Or.inl rfl) pe_non)
      (pss_cons (ps_for (passes_of rfl) rfl (pi_enum (by rfl) T.b_enumerate (pa_cons (pe_fld (pv 0) rfl) pa_nil)) (pg_tup rfl (pgs_cons (pg_name (i := 3) sc_Plan_current.nd rfl (Or.inl rfl)) (pgs_cons (pg_tup rfl (pgs_cons (pg_name (i := 4) sc_Plan_current.nd rfl (Or.inl rfl)) (pgs_cons (pg_name (i := 5) sc_Plan_current.nd rfl (Or.inl rfl)) pgs_nil))) pgs_nil))) (pss_one (ps_if (pt_cmpR op_le (pv 4) (pv 1) (nomark _)) (pss_one (ps_set (i := 2) sc_Plan_current.nd rfl (Or.inl rfl) (pv 3))) pss_nil)))
      (pss_one (ps_ret (pv 2)))))), ?_⟩
    obtain ⟨⟨dx, l, e1, e2⟩, at_, ok⟩ := id pl
    refine ⟨_, rfl, ?_⟩
    unfold spMom
    rcases k with ⟨m, rfl, m0, mL, k⟩ | ⟨bad, k⟩
    · refine ⟨_, rfl, .inl ⟨m, rfl, ?_⟩⟩
      rw [decide_eq_true m0, decide_eq_true mL]
      refine ⟨true, rfl, iteF ?_⟩
      refine ⟨_, rfl, p, PC, dx, _, .ref l, rfl, e1, PT.cl, PT.ne, get_e l, l, es.map Ed.v, rfl, SqL.of e2, ?_⟩
      refine for_it walk_enum (fun j σ' H' => ∃ v3 v4 v5, σ' = [some (.ref p), some (.int m), some (optV (lastI es m j)), v3, v4, v5] ∧ Same H H') ⟨_, _, _, rfl, .refl _⟩ (fun i σ' H' _ ⟨_, _, _, _, s⟩ => SqL.of (s _ _ e2)) ?_ ?_
      · rintro j y σ' H' H2 lt ⟨v3, v4, v5, rfl, s'⟩ ⟨T0, kk, vv, rfl, nT, rfl, ek, ev⟩
        cases Option.some.inj ek
        obtain ⟨e, ee, rfl⟩ := ed_at ev
        have sT := same_new' (o := .tup [.int (j : Nat), .ref e.t]) s' nT
        have ae := (at_ e (List.mem_of_getElem? ee)).same sT
        refine ⟨T0, _, rfl, SqT.of upd_same, rfl, _, _, rfl, _, _, rfl, e.t, _, rfl, SqT.of ae.tp, rfl, _, _, rfl, _, _, rfl, rfl, rfl, ?_⟩
        refine ⟨_, rfl, _, rfl, _, _, rfl, rfl, _, rfl, ?_⟩
        have nx : lastI es m (j + 1) = if e.m ≤ m then some j else lastI es m j := by
          show (match es[j]? with | some e => if e.m ≤ m then some j else lastI es m j | none => lastI es m j) = _
          rw [ee]
        by_cases c : e.m ≤ m
        · refine iteTe (decide_eq_true c) ⟨_, rfl, some (.int (j : Nat)), some (.int e.m), some (.ref e.x), ?_, sT⟩
          rw [nx, if_pos c]; rfl
        · refine iteFe (decide_eq_false c) ⟨some (.int (j : Nat)), some (.int e.m), some (.ref e.x), ?_, sT⟩
          rw [nx, if_neg c]; rfl
      · rintro σ' H' ⟨v3, v4, v5, rfl, s'⟩
        rw [List.length_map]
        exact ⟨_, rfl, k H' s'⟩
    · rcases bad with ⟨i, rfl, e⟩ | no
      · refine ⟨_, rfl, .inl ⟨i, rfl, ?_⟩⟩
        rw [e]
        exact ⟨_, rfl, iteT ⟨_, rfl, x_read fun d nd => k d _ nd (same_new nd) upd_same⟩⟩
      · exact ⟨_, rfl, .inr ⟨no, _, rfl, iteT ⟨_, rfl, x_read fun d nd => k d _ nd (same_new nd) upd_same⟩⟩⟩
end
end K09
namespace K09
open PySem PySem.Spec PyProof.Rows L2 Jg
local macro_rules | `(tactic| walk_at "rd1") => `(tactic| (first
  | refine ⟨_, rfl, ?_⟩
  | refine ⟨_, _, rfl, rfl, ?_⟩
  | refine ⟨_, _, rfl, ?_⟩
  | refine ⟨rfl, ?_⟩
  | (refine ⟨show (0 : Int) < _ by omega, ?_⟩)
  | (refine ⟨Or.inl ⟨by omega, by omega⟩, ?_⟩)
  | (refine ⟨Or.inr ⟨by omega, by omega⟩, ?_⟩)
  | (refine ⟨(⟨by decide, by decide, by decide⟩ : CPow _ _), ?_⟩)
  | refine Or.inl ⟨_, rfl, ?_⟩
  | refine Or.inr ⟨_, rfl, ?_⟩
  | fail "rd"))
local macro_rules | `(tactic| walk_at "rd") => `(tactic| repeat' walk_at "rd1")
theorem mk_same {C : Addr} {H : Hp} {x dx : Addr} (nx : H x = none) (ndx : H dx = none) (nex : dx ≠ x) : Same H (upd (upd H dx (.own x)) x (.ins C dx [])) := same_new' (same_new ndx) (by rw [upd_ne (Ne.symm nex)]; exact nx)
open K09C (Ct)
theorem EdsOk.take {es : List Ed} (ok : EdsOk es) (n : Nat) : EdsOk (es.take (n + 1)) := by
  have sub : ∀ {e : Ed}, e ∈ es.take (n + 1) → e ∈ es := fun h => List.mem_of_mem_take h
  have at_ : ∀ {i : Nat} {e : Ed}, (es.take (n + 1))[i]? = some e → es[i]? = some e := fun {i e} h => by
    rw [List.getElem?_take] at h
    split at h
    · exact h
    · cases h
  have n1 := ok.n1
  have n7 := ok.n7
  exact ⟨by rw [List.length_take]; omega, by rw [List.length_take]; omega, fun e he => ok.mo e (sub he), fun i a b ha hb => ok.inc i a b (at_ ha) (at_ hb), fun a ha b hb => ok.rl a (sub ha) b (sub hb)⟩
@[irreducible] def spCut (PC C : Addr) : Sp := fun vs H Q _ => ∃ (p : Addr) (es : List Ed) (n : Nat), vs = [.ref p, .int n] ∧ PlAt PC C H p es ∧ n < es.length ∧ ∀ x es' H', H x = none → Same H H' → PlAt PC C H' x es' → es'.map Ed.k = (es.take (n + 1)).map Ed.k → Q (.ref x) H'
section
variable {P : Program} {w : World} {K : PySem.W.Frag} {mg : Str → Option Value} {base : Heap} {C PC CU CE RC FC KC : Addr}
theorem sc_Plan_cut : FnScope ["self", "number"] ["self", "number"] (defScope s_Plan_cut) := ⟨rfl, rfl, rfl, by decide +kernel, rfl, by decide +kernel, by decide +kernel⟩
theorem ok_cut (D : MetK K PC "cut" "Plan.cut" s_Plan_cut) (PT : PTx K mg PC) (M_check : Met P w K mg base (L2.CX P w) 4 PC "_check" (spPCheck K PC C CE)) (M_Plan : Mak P w K mg base CX0 6 "Plan" PC (spPInit PC C)) : Met P w K mg base CX0 8 PC "cut" (spCut PC C) := by
  refine D.met sc_Plan_cut (fun _ _ _ _ _ _ us hl => match us, hl with | [_, _], _ => rfl) (fun vs H Q E h => ?_) fun f cdv A outer s H vs Q E hr h => ?_
  · unfold spCut at h; obtain ⟨p, es, n, rfl, _⟩ := h; rfl
  · unfold spCut at h; obtain ⟨p, es, n, rfl, pl, lt, k⟩ := h
    obtain ⟨⟨dx, l, e1, e2⟩, at_, ok⟩ := id pl
    refine ⟨_, (pss_cons (ps_expr (pe_mS M_check PT.cl takes0 hr (by decide) (pv 0) (pa_cons (pv 1) pa_nil)))
      (pss_one (ps_ret (pe_mk M_Plan hr (by decide) rfl (pa_cons (pe_slice sl_list (pe_fld (pv 0) rfl) po_none (po_some (pe_op op_add (pv 1) pe_int))) pa_nil))))), ?_⟩
    have e0 : (es.map Ed.v).take (n + 1) = (es.take (n + 1)).map Ed.v := List.map_take.symm
    refine ⟨_, rfl, p, dx, _, rfl, e1, get_eno _ (by decide +kernel), _, rfl, p, es, .int n, rfl, pl, .inl ⟨n, rfl, lt, ?_⟩⟩
    refine ⟨_, rfl, p, PC, dx, _, .ref l, rfl, e1, PT.cl, PT.ne, get_e l, _, rfl, ?_⟩
    have ec : cutV (es.map Ed.v) none (some ((n : Int) + 1)) = (es.take (n + 1)).map Ed.v := by
      unfold cutV
      have e : HT.sIx (es.map Ed.v).length (es.map Ed.v).length (some ((n : Int) + 1)) = n + 1 := by
        rw [List.length_map]
        show (if ((n : Int) + 1) < 0 then (((n : Int) + 1) + (es.length : Int)).toNat else min ((n : Int) + 1).toNat es.length) = _
        rw [if_neg (by omega)]; omega
      rw [e, HT.sIx_none, Nat.sub_zero, List.drop_zero, List.map_take]
    refine ⟨_, _, rfl, rfl, (n : Int) + 1, rfl, l, _, rfl, SqL.of e2, fun l2 n2 => ?_⟩
    have g2 := same_new (o := .lst (cutV (es.map Ed.v) none (some ((n : Int) + 1)))) n2
    have el2 : upd H l2 (.lst (cutV (es.map Ed.v) none (some ((n : Int) + 1)))) l2 = some (.lst ((es.take (n + 1)).map Ed.v)) := by rw [ec]; exact upd_same
    generalize upd H l2 (.lst (cutV (es.map Ed.v) none (some ((n : Int) + 1)))) = H2 at *
    intro x dx1 nx ndx nex
    exact ⟨x, dx1, l2, es.take (n + 1), H2, rfl, upd_same, mk_same nx ndx nex, nx, el2, fun e he => (at_ e (List.mem_of_mem_take he)).same g2, ok.take n, fun H' es' pl' ek sH => ⟨rfl, k x es' H' (g2.free nx) (g2.trans sH) pl' ek⟩⟩
end
open K09C (StA SameB spDr spCh use_choose spWords Wd)
theorem use_drawB {H : Hp} {p : Addr} {n : Int} {Q : VK} {E : XK} (st : StA H p) (h1 : 0 < n) (h2 : n.natAbs < 2 ^ 300) (k : ∀ v H', 0 ≤ v → v < n → StA H' p → SameB p H H' → Q (.int v) H') : spDr [.ref p, .int n] H Q E := by
  unfold spDr
  obtain ⟨a, b, e, ha⟩ := st
  exact ⟨p, a, b, n, rfl, e, ha, h1, h2, fun v a' b' v0 v1 h => k v _ v0 v1 ⟨a', b', upd_same, h⟩ (SameB.refl _ _).mut⟩
/-- moments that go up, bounded by their place -/
structure MsJ (ms : List Int) : Prop where
  bd : ∀ (i : Nat) (m : Int), ms[i]? = some m → 0 ≤ m ∧ m ≤ 5 + (i : Int) * (10 ^ 38 + 1)
  up : ∀ (i : Nat) (a b : Int), ms[i]? = some a → ms[i + 1]? = some b → a < b
theorem MsJ.one {v : Int} (h0 : 0 ≤ v) (h1 : v ≤ 5) : MsJ ([] ++ [v]) := by
  refine ⟨fun i m h => ?_, fun i a b h1 h2 => ?_⟩
  · match i, h with
    | 0, h =>
      cases Option.some.inj h
      exact ⟨h0, by omega⟩
    | i + 1, h => cases h
  · cases i <;> cases h2
theorem MsJ.more {ini : List Int} {m v : Int} (h : MsJ (ini ++ [m])) (v0 : 0 ≤ v) (v1 : v ≤ 10 ^ 38) : MsJ ((ini ++ [m]) ++ [m + 1 + v]) := by
  have last : (ini ++ [m])[ini.length]? = some m := by rw [List.getElem?_append_right (Nat.le_refl _), Nat.sub_self]; rfl
  have len : (ini ++ [m]).length = ini.length + 1 := List.length_append
  have lb := h.bd _ _ last
  refine ⟨fun i a ha => ?_, fun i a b ha hb => ?_⟩
  · by_cases c : i < (ini ++ [m]).length
    · rw [List.getElem?_append_left c] at ha; exact h.bd i a ha
    · rw [List.getElem?_append_right (by omega)] at ha
      have l := (List.getElem?_eq_some_iff.mp ha).1
      have l : i - (ini ++ [m]).length < 1 := l
      have ei : i = ini.length + 1 := by omega
      subst ei
      rw [show ini.length + 1 - (ini ++ [m]).length = 0 by omega] at ha
      cases Option.some.inj ha
      have p : (0 : Int) ≤ 10 ^ 38 := by decide
      refine ⟨by omega, ?_⟩
      have : (((ini.length + 1 : Nat) : Int)) * (10 ^ 38 + 1) = (ini.length : Int) * (10 ^ 38 + 1) + (10 ^ 38 + 1) := by
        rw [Int.natCast_succ, Int.add_mul, Int.one_mul]
      rw [this]
      omega
  · have l2 := (List.getElem?_eq_some_iff.mp hb).1
    rw [List.length_append, len] at l2
    have l2 : i + 1 < ini.length + 1 + 1 := l2
    rw [List.getElem?_append_left (by omega)] at ha
    by_cases c : i + 1 < (ini ++ [m]).length
    · rw [List.getElem?_append_left c] at hb; exact h.up i a b ha hb
    · have ei : i = ini.length := by omega
      subst ei
      rw [last] at ha
      cases Option.some.inj ha
      rw [List.getElem?_append_right (by omega), show ini.length + 1 - (ini ++ [m]).length = 0 by omega] at hb
      cases Option.some.inj hb
      omega
@[irreducible] def spMom9 : Sp := fun vs H Q _ => ∃ (p : Addr) (n : Nat) (st : Int), vs = [.ref p, .int (n : Nat), .int st] ∧ StA H p ∧ 1 ≤ n ∧ n ≤ 7 ∧ 0 < st ∧ st ≤ 10 ^ 38 ∧
  ∀ (l : Addr) (ms : List Int) (H' : Hp), H l = none → l ≠ p → ms.length = n → MsJ ms → H' l = some (.lst (ms.map V.int)) → StA H' p → SameB p H H' → Q (.ref l) H'
section
variable {P : Program} {w : World} {K : PySem.W.Frag} {mg : Str → Option Value} {base : Heap}
theorem sc_law_moments : FnScope ["stream", "count", "steps", "found", "turn"] ["stream", "count", "steps"] (defScope s_law_moments) := ⟨rfl, rfl, rfl, by decide +kernel, rfl, by decide +kernel, by decide +kernel⟩
theorem ok_mom9 (D : DefK K mg "_law_moments" s_law_moments) (T : TxP K mg) (G_law_draw : Cal P w K mg base CX0 1 "_law_draw" spDr) : Cal P w K mg base CX0 2 "_law_moments" spMom9 := by
  refine D.cal sc_law_moments (fun _ _ _ _ _ _ us hl => match us, hl with | [_, _, _], _ => rfl) (fun vs H Q E h => ?_) fun f cdv A outer s H vs Q E hr h => ?_
  · unfold spMom9 at h; obtain ⟨p, n, st, rfl, _⟩ := h; rfl
  · unfold spMom9 at h; obtain ⟨p, n, st, rfl, sA, n1, n7, st0, st1, k⟩ := h
    refine ⟨_, (pss_cons (ps_set (i := 3) sc_law_moments.nd rfl (Or.inl rfl) (pe_lst (pa_cons (pe_c G_law_draw hr (by decide) rfl (pa_cons (pv 0) (pa_cons pe_int pa_nil))) pa_nil)))
      (pss_cons (ps_for PassesOwn.never rfl (pi_range1 (by rfl) T.b_range (pa_cons (pe_op op_sub (pv 1) pe_int) pa_nil)) (pg_name (i := 4) sc_law_moments.nd rfl (Or.inl rfl)) (pss_one (ps_expr (pe_bm F.plainAttrs_list F.slot_list_append F.type_list_append mt_append (pv 3) (pa_cons (pe_op op_add (pe_op op_add (pe_ix (r := rIxL K) ix_list (pv 3) (pe_un un_neg pe_int) (fun _ _ => rfl)) pe_int) (pe_c G_law_draw hr (by decide) rfl (pa_cons (pv 0) (pa_cons (pv 2) pa_nil)))) pa_nil)))))
      (pss_one (ps_ret (pv 3))))), ?_⟩
    have stB : st.natAbs < 2 ^ 300 := by
      have b : (st.natAbs : Int) ≤ 10 ^ 38 := by omega
      have c : (10 ^ 38 : Int) < ((2 ^ 300 : Nat) : Int) := by decide +kernel
      exact Int.ofNat_lt.mp (Int.lt_of_le_of_lt b c)
    refine ⟨_, rfl, use_drawB sA (by decide) (by decide +kernel) fun v0 H1 a0 a1 st1 s1 => ⟨by show 1 ≤ sizeLine; decide, fun f nf => ?_⟩⟩
    have fp : f ≠ p := st1.ne nf
    have ef : upd H1 f (.lst [.int v0]) f = some (.lst [.int v0]) := upd_same
    have sf := same_new (o := .lst [.int v0]) nf
    have nfH : H f = none := s1.free nf fp
    have st2 := st1.keep sf
    have s2 := s1.trans (SameB.of sf)
    generalize upd H1 f (.lst [.int v0]) = H2 at *
    refine ⟨_, rfl, _, _, rfl, rfl, _, rfl, by omega, by omega, ?_⟩
    refine for_range (lo := 0) (fun i sg Hi => ∃ (v4 : Option V) (ini : List Int) (m : Int), sg = [some (.ref p), some (.int n), some (.int st), some (.ref f), v4] ∧ StA Hi p ∧ SameB p H Hi ∧ Hi f = some (.lst ((ini ++ [m]).map V.int)) ∧ ini.length = i ∧ MsJ (ini ++ [m])) ⟨_, [], v0, rfl, st2, s2, ef, rfl, MsJ.one a0 (by omega)⟩ ?_ ?_
    · rintro i sg Hi hi ⟨v4, ini, m, rfl, sti, si, efi, il, im⟩
      refine ⟨_, rfl, .inl ⟨rfl, _, .inl (.inl efi)⟩, _, rfl, _, rfl, f, _, _, _, rfl, rfl, SqL.of efi, by rw [List.map_append]; exact atI_last _ _, _, _, rfl, rfl, _, rfl, _, rfl, use_drawB sti st0 stB fun v Hb b0 b1 stb sb => ⟨_, _, rfl, rfl, f, _, _, rfl, rfl, sb _ _ efi fp, by rw [List.length_map, List.length_append, il, sizeLine_eq]; show i + 1 < _; omega, ?_⟩⟩
      refine ⟨_, ini ++ [m], m + 1 + v, rfl, ?_, fun q o e nn => by rw [upd_ne (ne_of_none e nfH)]; exact sb _ _ (si _ _ e nn) nn, by rw [upd_same]; exact congrArg (fun z => some (HO.lst z)) (List.map_append (f := V.int) (l₁ := ini ++ [m]) (l₂ := [m + 1 + v])).symm, by rw [List.length_append, il]; rfl, im.more (by omega) (by omega)⟩
      obtain ⟨a, b, e, h⟩ := stb
      exact ⟨a, b, by rw [upd_ne fp.symm]; exact e, h⟩
    · rintro sg Hi ⟨v4, ini, m, rfl, sti, si, efi, il, im⟩
      exact ⟨_, rfl, k f (ini ++ [m]) Hi nfH fp (by rw [List.length_append, il]; show _ + 1 = n; omega) im efi sti si⟩
end
end K09
namespace K09
open PySem PySem.Spec PyProof.Rows L2 Jg
local macro_rules | `(tactic| walk_at "rd1") => `(tactic| (first
  | refine ⟨_, rfl, ?_⟩
  | refine ⟨_, _, rfl, rfl, ?_⟩
  | refine ⟨_, _, rfl, ?_⟩
  | refine ⟨rfl, ?_⟩
  | (refine ⟨show (0 : Int) < _ by omega, ?_⟩)
  | (refine ⟨Or.inl ⟨by omega, by omega⟩, ?_⟩)
  | (refine ⟨Or.inr ⟨by omega, by omega⟩, ?_⟩)
  | (refine ⟨(⟨by decide, by decide, by decide⟩ : CPow _ _), ?_⟩)
  | refine Or.inl ⟨_, rfl, ?_⟩
  | refine Or.inr ⟨_, rfl, ?_⟩
  | fail "rd"))
local macro_rules | `(tactic| walk_at "rd") => `(tactic| repeat' walk_at "rd1")
open K09C (Ct CAt CtOk)
theorem len_eq0 {xs : List V} {H : Hp} {a c : Addr} (h1 : H a = some (.lst xs)) (h2 : H c = some (.lst [])) : LstB FlB (.ref a) (.ref c) H (decide (xs = [])) := by
  refine ⟨a, c, xs, [], fun _ => true, rfl, rfl, h1, h2, fun l i x y hx hy => by simp at hy, ?_⟩
  cases xs with
  | nil => rfl
  | cons x xs => rfl
theorem fwE_iff {es : List Ed} (n1 : 1 ≤ es.length) : fwE es = none ↔ (∀ (i : Nat) (a b : Ed), es[i]? = some a → es[i + 1]? = some b → a.m < b.m) ∧ ∀ e0, es[0]? = some e0 → ∀ e ∈ es, e.c.us.map (·.z) = e0.c.us.map (·.z) := by
  obtain ⟨e0, h0⟩ : ∃ e0, es[0]? = some e0 := ⟨_, List.getElem?_eq_getElem (by omega)⟩
  constructor
  · intro h
    have no : ∀ i, i < es.length → wrE es i = false := fun i hi => by
      have := List.find?_eq_none.mp h i (List.mem_range.mpr hi)
      simpa using this
    refine ⟨fun i a b ha hb => ?_, fun e0' h0' e he => ?_⟩
    · have q := no (i + 1) (List.getElem?_eq_some_iff.mp hb).1
      rw [wrE_at hb h0, Bool.or_eq_false_iff] at q
      have q := q.1
      rw [decide_eq_true (Nat.succ_pos i), Bool.true_and, Nat.add_sub_cancel, ha] at q
      have := of_decide_eq_false q
      omega
    · rw [h0] at h0'
      cases h0'
      obtain ⟨i, hi⟩ := List.getElem?_of_mem he
      have q := no i (List.getElem?_eq_some_iff.mp hi).1
      rw [wrE_at hi h0, Bool.or_eq_false_iff] at q
      have := q.2
      simpa using this
  · rintro ⟨up, rl⟩
    refine fr_no fun j hj => ?_
    obtain ⟨e, he⟩ : ∃ e, es[j]? = some e := ⟨_, List.getElem?_eq_getElem hj⟩
    rw [wrE_at he h0, decide_eq_true (rl e0 h0 e (List.mem_of_getElem? he))]
    by_cases c : 0 < j
    · obtain ⟨i, rfl⟩ : ∃ i, j = i + 1 := ⟨j - 1, by omega⟩
      obtain ⟨b, hb⟩ : ∃ b, es[i]? = some b := ⟨_, List.getElem?_eq_getElem (by omega)⟩
      have := up i b e hb he
      rw [decide_eq_true c, Nat.add_sub_cancel, hb]
      show (true && decide (e.m ≤ b.m) || !true) = false
      rw [decide_eq_false (by omega)]; rfl
    · rw [decide_eq_false c]; rfl
/-- the moment goes up after the i-th -/
def upI (es : List Ed) (i : Nat) : Bool := match es[i]?, es[i + 1]? with
  | some a, some b => decide (a.m < b.m)
  | _, _ => true
@[irreducible] def spGood (C : Addr) : Sp := fun vs H Q _ => ∃ (l : Addr) (es : List Ed), vs = [.ref l] ∧ H l = some (.lst (es.map Ed.v)) ∧ (∀ e ∈ es, EdAt C H e) ∧ 1 ≤ es.length ∧ es.length ≤ 8 ∧ ∀ H', Same H H' → Q (.bl (decide (fwE es = none))) H'
section
variable {P : Program} {w : World} {K : PySem.W.Frag} {mg : Str → Option Value} {base : Heap} {C PC CU CE CO CP CM RC FC KC : Addr}
theorem sc_law_good : FnScope ["rows", "ahead", "at", "one", "row"] ["rows"] (defScope s_law_good) := ⟨rfl, rfl, rfl, by decide +kernel, rfl, by decide +kernel, by decide +kernel⟩
theorem ok_good (D : DefK K mg "_law_good" s_law_good) (T : TxP K mg) (J : K09C.CTx K mg C) (P_roles : Prp P w K mg base CX0 1 C "roles" (K09C.spLst C fun c => c.us.map (·.z))) : Cal P w K mg base CX0 4 "_law_good" (spGood C) := by
  refine D.cal sc_law_good (fun _ _ _ _ _ _ us hl => match us, hl with | [_], _ => rfl) (fun vs H Q E h => ?_) fun f cdv A outer s H vs Q E hr h => ?_
  · unfold spGood at h; obtain ⟨l, es, rfl, _⟩ := h; rfl
  · unfold spGood at h; obtain ⟨l, es, rfl, el, at_, n1, n8, k⟩ := h
    have hu : (A.deeper (envOfC "_law_good" (defScope s_law_good) s.heap.objs.size f cdv)).units + 64 < cLine := hr.units
    refine ⟨_, (C8.pss_cut (ps_setLc (i := 1) (own := [("at", 2)]) (g := gName 2) (by rfl) sc_law_good.nd rfl rfl (sw_true rfl rfl rfl (by decide +kernel)) (pi_range1 (by rfl) T.b_range (pa_cons (pe_op op_sub (pe_callB call_len_seq (by rfl) T.b_len (by decide +kernel) (pa_cons (pv 0) pa_nil)) pe_int) pa_nil)) (blkOk_by (own := [("at", 2)]) (N := ["rows", "ahead", "at", "one", "row"]) (sc := defScope s_law_good) (by decide +kernel)) (fun _ _ _ _ _ => pg_name (i := 2) sc_law_good.nd rfl (Or.inl rfl)) (fun _ _ _ _ _ => pts_nil) (fun _ _ _ _ _ => (pe_cmpR op_lt (pe_ix (r := rIxT K) ix_tup (pe_ix (r := rIxL K) ix_list (pv 0) (pv 2) (fun _ _ => rfl)) pe_int (fun _ _ => rfl)) (pe_ix (r := rIxT K) ix_tup (pe_ix (r := rIxL K) ix_list (pv 0) (pe_op op_add (pv 2) pe_int) (fun _ _ => rfl)) pe_int (fun _ _ => rfl)) (nomark _))))
      (pss_one (ps_ret (pe_and (pe_cmpR (op_eqB (rcB_list mon_flB eqB_flat) (hr.mono (by decide))) (pe_lc (own := [("one", 3)]) (g := gName 3) (by rfl) sc_law_good.nd (pi_list (pv 1)) (blkOk_by (own := [("one", 3)]) (N := ["rows", "ahead", "at", "one", "row"]) (sc := defScope s_law_good) (by decide +kernel)) (fun _ _ _ _ _ => pg_name (i := 3) sc_law_good.nd rfl (Or.inl rfl)) (fun _ _ _ _ _ => (pts_one (pt_not (pt_val (pv 3))))) (fun _ _ _ _ _ => (pv 3))) (pe_lst pa_nil) (nomark _)) (pe_one (pe_cmpR (op_eqB (rcB_list mon_flB eqB_flat) (hr.mono (by decide))) (pe_lc (own := [("row", 4)]) (g := gName 4) (by rfl) sc_law_good.nd (pi_list (pv 0)) (blkOk_by (own := [("row", 4)]) (N := ["rows", "ahead", "at", "one", "row"]) (sc := defScope s_law_good) (by decide +kernel)) (fun _ _ _ _ _ => pg_name (i := 4) sc_law_good.nd rfl (Or.inl rfl)) (fun _ _ _ _ _ => (pts_one (pt_cmpR (r := rNeD K) (op_neD hu) (pe_p P_roles J.cl hr (by decide) (pe_ix (r := rIxT K) ix_tup (pv 4) pe_int (fun _ _ => rfl))) (pe_p P_roles J.cl hr (by decide) (pe_ix (r := rIxT K) ix_tup (pe_ix (r := rIxL K) ix_list (pv 0) pe_int (fun _ _ => rfl)) pe_int (fun _ _ => rfl))) (nomark _)))) (fun _ _ _ _ _ => (pv 4))) (pe_lst pa_nil) (nomark _))))))), ?_⟩
    refine ⟨fun σ' H' => ∃ (la : Addr), σ' = [some (.ref l), some (.ref la), none, none, none] ∧ H' la = some (.lst (((List.range (es.length - 1)).map (upI es)).map V.bl)) ∧ Same H H', ?_, ?_⟩
    · refine ⟨_, rfl, l, _, rfl, .inl (SqL.of el), _, _, rfl, rfl, _, rfl, by rw [List.length_map]; omega, by rw [List.length_map]; omega, fun D nD => ?_⟩
      have nm : (((es.map Ed.v).length : Int) - 1).toNat = es.length - 1 := by rw [List.length_map]; omega
      rw [nm]
      refine lc_range (lo := 0) (n := es.length - 1) (fun i H' => H' D = some (.lst (((List.range i).map (upI es)).map V.bl)) ∧ Same H H') ⟨upd_same, same_new nD⟩ ?_ ?_
      · rintro i H1 hi ⟨eD, s1⟩
        have ei : (0 : Int) + (i : Nat) = ((i : Nat) : Int) := by omega
        rw [ei]
        obtain ⟨a, ha⟩ : ∃ a, es[i]? = some a := ⟨_, List.getElem?_eq_getElem (by omega)⟩
        obtain ⟨b, hb⟩ : ∃ b, es[i + 1]? = some b := ⟨_, List.getElem?_eq_getElem (by omega)⟩
        have A := (at_ a (List.mem_of_getElem? ha)).same s1
        have B := (at_ b (List.mem_of_getElem? hb)).same s1
        have el1 := s1 _ _ el
        refine ⟨rfl, K09C.yes_if ?_⟩
        refine ⟨_, rfl, _, rfl, l, _, _, .ref a.t, rfl, rfl, SqL.of el1, atI_nat (j := i) (ed_get ha), a.t, _, 0, _, rfl, rfl, SqT.of A.tp, atI_nat (j := 0) rfl, ?_⟩
        have e1 : ((i : Nat) : Int) + 1 = ((i + 1 : Nat) : Int) := by omega
        refine ⟨_, rfl, _, rfl, _, _, rfl, rfl, l, _, _, .ref b.t, rfl, rfl, SqL.of el1, by rw [e1]; exact atI_nat (j := i + 1) (ed_get hb), b.t, _, 0, _, rfl, rfl, SqT.of B.tp, atI_nat (j := 0) rfl, _, _, rfl, rfl, ?_⟩
        refine ⟨_, eD, by rw [List.length_map, List.length_map, List.length_range, sizeLine_eq]; omega, ?_, same_mut s1 nD⟩
        rw [upd_same, List.range_succ, List.map_append, List.map_append]
        have u : upI es i = decide (a.m < b.m) := by unfold upI; rw [ha, hb]
        show _ = some (HO.lst (_ ++ [V.bl (upI es i)]))
        rw [u]
      · rintro H1 ⟨eD, s1⟩
        exact ⟨D, rfl, eD, s1⟩
    rintro _ H1 ⟨la, rfl, ea, s1⟩
    have el1 := s1 _ _ el
    have at1 := fun e he => (at_ e he).same s1
    have lr : (List.range (es.length - 1)).length = es.length - 1 := List.length_range
    refine ⟨_, rfl, la, rfl, ⟨_, SqL.of ea⟩, fun D nD => ?_⟩
    refine lc_list (K := K) (a := la) (xs := ((List.range (es.length - 1)).map (upI es)).map V.bl) (fun j H' => H' D = some (.lst ((((List.range j).map (upI es)).filter fun b => !b).map V.bl)) ∧ Same H1 H') ⟨upd_same, same_new nD⟩ (fun j H' _ ⟨_, s⟩ => SqL.of (s _ _ ea)) ?_ ?_
    · rintro j y H2 hy ⟨eD, s2⟩
      have jl := (List.getElem?_eq_some_iff.mp hy).1
      rw [List.length_map, List.length_map, lr] at jl
      have ey : y = V.bl (upI es j) := by
        rw [List.getElem?_map, List.getElem?_map, List.getElem?_range jl] at hy
        exact (Option.some.inj hy).symm
      subst ey
      refine ⟨rfl, ?_⟩
      have len : (((List.range j).map (upI es)).filter fun b => !b).length < sizeLine := by
        have := List.length_filter_le (fun b => !b) ((List.range j).map (upI es))
        rw [List.length_map, List.length_range] at this
        rw [sizeLine_eq]; omega
      have nx : ((List.range (j + 1)).map (upI es)).filter (fun b => !b) = ((List.range j).map (upI es)).filter (fun b => !b) ++ (if upI es j then [] else [false]) := by
        rw [List.range_succ, List.map_append, List.filter_append]
        show _ ++ List.filter _ [upI es j] = _
        cases upI es j <;> rfl
      refine ⟨_, rfl, upI es j, rfl, ?_⟩
      cases c : upI es j with
      | true =>
        refine iteFe rfl ⟨?_, s2⟩
        rw [nx, c, if_pos rfl, List.append_nil]; exact eD
      | false =>
        refine iteTe rfl ⟨_, rfl, _, eD, by rw [List.length_map]; exact len, ?_, same_mut s2 nD⟩
        rw [upd_same, nx, c, List.map_append]; rfl
    · rintro H2 ⟨eD, s2⟩
      rw [List.length_map, List.length_map, lr] at eD
      have s02 := s1.trans s2
      refine ⟨Nat.zero_le _, fun l0 n0 => ?_⟩
      have g0 := same_new (o := .lst []) n0
      have e00 : upd H2 l0 (.lst []) l0 = some (.lst []) := upd_same
      have eD3 := g0 _ _ eD
      have s03 := s02.trans g0
      generalize upd H2 l0 (.lst []) = H3 at *
      refine ⟨_, len_eq0 eD3 e00, fun H4 x4 => ⟨_, rfl, ?_⟩⟩
      have s4 : Same H H4 := s03.trans x4
      have upA : ((((List.range (es.length - 1)).map (upI es)).filter fun b => !b).map V.bl = []) ↔ ∀ (i : Nat) (a b : Ed), es[i]? = some a → es[i + 1]? = some b → a.m < b.m := by
        rw [List.map_eq_nil_iff, List.filter_eq_nil_iff]
        constructor
        · intro h i a b ha hb
          have lt := (List.getElem?_eq_some_iff.mp hb).1
          have q := h (upI es i) (List.mem_map_of_mem (List.mem_range.mpr (by omega)))
          have u : upI es i = decide (a.m < b.m) := by unfold upI; rw [ha, hb]
          rw [u] at q
          simpa using q
        · intro h x hx
          obtain ⟨i, hi, rfl⟩ := List.mem_map.mp hx
          have hi := List.mem_range.mp hi
          obtain ⟨a, ha⟩ : ∃ a, es[i]? = some a := ⟨_, List.getElem?_eq_getElem (by omega)⟩
          obtain ⟨b, hb⟩ : ∃ b, es[i + 1]? = some b := ⟨_, List.getElem?_eq_getElem (by omega)⟩
          have u : upI es i = decide (a.m < b.m) := by unfold upI; rw [ha, hb]
          rw [u, decide_eq_true (h i a b ha hb)]; decide
      obtain ⟨e0, h0⟩ : ∃ e0, es[0]? = some e0 := ⟨_, List.getElem?_eq_getElem (by omega)⟩
      by_cases cu : (((List.range (es.length - 1)).map (upI es)).filter fun b => !b).map V.bl = []
      · refine iteTe (decide_eq_true cu) ?_
        have el4 := s4 _ _ el
        refine ⟨_, rfl, l, rfl, ⟨_, SqL.of el4⟩, fun D5 nD5 => ?_⟩
        refine lc_list (K := K) (a := l) (xs := es.map Ed.v) (fun j H' => H' D5 = some (.lst (((es.take j).filter fun e => !decide (e.c.us.map (·.z) = e0.c.us.map (·.z))).map Ed.v)) ∧ Same H4 H') ⟨upd_same, same_new nD5⟩ (fun j H' _ ⟨_, s⟩ => SqL.of (s _ _ el4)) ?_ ?_
        · rintro j y H6 hy ⟨eD6, s6⟩
          obtain ⟨e, he, rfl⟩ := ed_at hy
          have sH := s4.trans s6
          have ae := (at_ e (List.mem_of_getElem? he)).same sH
          have a0 := (at_ e0 (List.mem_of_getElem? h0)).same sH
          obtain ⟨⟨dx, d, v, sg, ex, _⟩, _⟩ := id ae.ct
          obtain ⟨⟨dx0, d0, v0, sg0, ex0, _⟩, _⟩ := id a0.ct
          refine ⟨rfl, ?_⟩
          refine ⟨_, rfl, e.t, _, 1, _, rfl, rfl, SqT.of ae.tp, atI_nat (j := 1) rfl, e.x, dx, _, rfl, ex, e.x, e.c, _, rfl, ae.ct, fun p1 m1 => ?_⟩
          have z1 := same_new (o := .lst ((e.c.us.map (·.z)).map V.str)) m1
          refine ⟨_, rfl, l, _, _, .ref e0.t, rfl, rfl, SqL.of ((s6.trans z1) _ _ el4), atI_nat (j := 0) (ed_get h0), e0.t, _, 1, _, rfl, rfl, SqT.of (z1 _ _ a0.tp), atI_nat (j := 1) rfl, e0.x, dx0, _, rfl, z1 _ _ ex0, e0.x, e0.c, _, rfl, a0.ct.same z1, fun p2 m2 => ?_⟩
          have z2 := same_new (o := .lst ((e0.c.us.map (·.z)).map V.str)) m2
          have z3 := s6.trans (z1.trans z2)
          have eDz := (z1.trans z2) _ _ eD6
          refine ask_neS (xs := e.c.us.map (·.z)) (ys := e0.c.us.map (·.z)) (SqL.of (z2 _ _ upd_same)) (SqL.of upd_same) (okW_role ae.ok) (okW_role a0.ok) ⟨_, rfl, ?_⟩
          have nx : (es.take (j + 1)).filter (fun e => !decide (e.c.us.map (·.z) = e0.c.us.map (·.z))) = (es.take j).filter (fun e => !decide (e.c.us.map (·.z) = e0.c.us.map (·.z))) ++ (if e.c.us.map (·.z) = e0.c.us.map (·.z) then [] else [e]) := by
            rw [List.take_succ, he, List.filter_append]
            show _ ++ List.filter _ [e] = _
            by_cases c : e.c.us.map (·.z) = e0.c.us.map (·.z)
            · rw [if_pos c, List.filter_cons_of_neg (by rw [decide_eq_true c]; decide)]; rfl
            · rw [if_neg c, List.filter_cons_of_pos (by rw [decide_eq_false c]; rfl)]; rfl
          by_cases c : e.c.us.map (·.z) = e0.c.us.map (·.z)
          · refine iteFe (by rw [decide_eq_true c]; rfl) ⟨?_, z3⟩
            rw [nx, if_pos c, List.append_nil]; exact eDz
          · refine iteTe (by rw [decide_eq_false c]; rfl) ⟨_, rfl, _, eDz, ?_, ?_, same_mut z3 nD5⟩
            · have := List.length_filter_le (fun e : Ed => !decide (e.c.us.map (·.z) = e0.c.us.map (·.z))) (es.take j)
              rw [List.length_take] at this
              rw [List.length_map, sizeLine_eq]; omega
            · rw [upd_same, nx, if_neg c, List.map_append]; rfl
        · rintro H6 ⟨eD6, s6⟩
          rw [List.length_map, List.take_length] at eD6
          refine ⟨Nat.zero_le _, fun l6 n6 => ?_⟩
          have g6 := same_new (o := .lst []) n6
          refine ⟨_, len_eq0 (g6 _ _ eD6) upd_same, fun H7 x7 => ?_⟩
          have q := k H7 (s4.trans (s6.trans (g6.trans x7)))
          have e : decide (fwE es = none) = decide ((es.filter fun e => !decide (e.c.us.map (·.z) = e0.c.us.map (·.z))).map Ed.v = []) := by
            refine decide_eq_decide.mpr ?_
            rw [fwE_iff n1, List.map_eq_nil_iff, List.filter_eq_nil_iff]
            constructor
            · rintro ⟨_, h⟩ a ha
              rw [decide_eq_true (h e0 h0 a ha)]; decide
            · intro h
              refine ⟨upA.mp cu, fun e0' h0' a ha => ?_⟩
              rw [h0] at h0'
              cases h0'
              have := h a ha
              simpa using this
          rw [e] at q
          exact q
      · refine iteFe (decide_eq_false cu) ?_
        have no : fwE es ≠ none := fun h => cu (upA.mpr ((fwE_iff n1).mp h).1)
        have q := k H4 s4
        rw [decide_eq_false no] at q
        exact q
end
end K09
namespace K09
open PySem PySem.Spec PyProof.Rows L2 Jg
local macro_rules | `(tactic| walk_at "rd1") => `(tactic| (first
  | refine ⟨_, rfl, ?_⟩
  | refine ⟨_, _, rfl, rfl, ?_⟩
  | refine ⟨_, _, rfl, ?_⟩
  | refine ⟨rfl, ?_⟩
  | (refine ⟨show (0 : Int) < _ by omega, ?_⟩)
  | (refine ⟨Or.inl ⟨by omega, by omega⟩, ?_⟩)
  | (refine ⟨Or.inr ⟨by omega, by omega⟩, ?_⟩)
  | (refine ⟨(⟨by decide, by decide, by decide⟩ : CPow _ _), ?_⟩)
  | refine Or.inl ⟨_, rfl, ?_⟩
  | refine Or.inr ⟨_, rfl, ?_⟩
  | fail "rd"))
local macro_rules | `(tactic| walk_at "rd") => `(tactic| repeat' walk_at "rd1")
open K09C (Ct CAt CtOk StA SameB spDr spCh use_choose hid hid_in hid_get hid_same)
/-- what comes of it: the editions after it, or what is refused -/
def dueE (es : List Ed) : Deed → List Ed ⊕ (Str × Int)
  | .add e => if es.length = 7 then .inr ("limit", 7) else if fwE (es ++ [e]) = none then .inl (es ++ [e]) else .inr ("plan", es.length)
  | .drop => if 1 < es.length then .inl es.dropLast else .inr ("edition", 0)
  | .set n e => if n = es.length then .inr ("edition", n) else if fwE (es.set n e) = none then .inl (es.set n e) else .inr ("plan", n)
def dueV : List Ed ⊕ (Str × Int) → List V
  | .inl es => es.map Ed.v
  | .inr q => [.str q.1, .int q.2]
@[irreducible] def spStep (C : Addr) : Sp := fun vs H Q _ => ∃ (p lr ls : Addr) (es : List Ed) (cs : List (Addr × Ct)) (hi : Int), vs = [.ref p, .ref lr, .ref ls] ∧ StA H p ∧ H lr = some (.lst (es.map Ed.v)) ∧ (∀ e ∈ es, EdAt C (hid [p] H) e) ∧ (∀ e ∈ es, 0 ≤ e.m ∧ e.m ≤ hi) ∧ 1 ≤ es.length ∧ es.length ≤ 7 ∧
  H ls = some (.lst (cs.map fun q => V.ref q.1)) ∧ 1 ≤ cs.length ∧ cs.length ≤ 100 ∧ (∀ q ∈ cs, CAt (fun _ => True) C (hid [p] H) q.1 q.2 ∧ CtOk q.2) ∧
  ∀ (L st du : Addr) (d : Deed) (H' : Hp), L ≠ p → H' L = some (.lst [.ref st, .ref du]) → H' st = some (.tup d.row) → H' du = some (.lst (dueV (dueE es d))) → du ≠ p → DeedAt C (hid [p] H') es (hi + 3) d → StA H' p → SameB p H H' → Q (.ref L) H'
theorem frefs9 {α : Type} {f : α → Addr} {xs : List α} : ∀ a b : Int, HO.lst (xs.map fun q => V.ref (f q)) ≠ .lst [.int a, .int b] := fun a b z => by
  have z := HO.lst.inj z
  cases xs with
  | nil => cases z
  | cons x xs => cases (List.cons.inj z).1
theorem hidB {p : Addr} {H H' : Hp} (s : SameB p H H') : Same (hid [p] H) (hid [p] H') := fun q o e => by
  obtain ⟨a, b⟩ := hid_get e
  exact hid_in (s _ _ a fun z => b (List.mem_singleton.mpr z)) b
section
variable {P : Program} {w : World} {K : PySem.W.Frag} {mg : Str → Option Value} {base : Heap} {C PC CU CE CO CP CM RC FC KC : Addr}
theorem sc_law_step : FnScope ["stream", "rows", "some", "near", "row", "later", "way", "number"] ["stream", "rows", "some"] (defScope s_law_step) := ⟨rfl, rfl, rfl, by decide +kernel, rfl, by decide +kernel, by decide +kernel⟩
theorem ok_step (D : DefK K mg "_law_step" s_law_step) (T : TxP K mg) (G_law_draw : Cal P w K mg base CX0 1 "_law_draw" spDr) (G_law_choose : Cal P w K mg base CX0 2 "_law_choose" (spCh K)) (G_law_good : Cal P w K mg base CX0 4 "_law_good" (spGood C)) : Cal P w K mg base CX0 5 "_law_step" (spStep C) := by
  refine D.cal sc_law_step (fun _ _ _ _ _ _ us hl => match us, hl with | [_, _, _], _ => rfl) (fun vs H Q E h => ?_) fun f cdv A outer s H vs Q E hr h => ?_
  · unfold spStep at h; obtain ⟨p, lr, ls, es, cs, hi, rfl, _⟩ := h; rfl
  · unfold spStep at h; obtain ⟨p, lr, ls, es, cs, hi, rfl, sA, er, at_, bd, n1, n7, es_, c1, c100, ca, k⟩ := h
    refine ⟨_, (C8.pss_cut (ps_par (i := 6) (j := 7) (by rfl) sc_law_step.nd rfl rfl (by decide) rfl rfl (pa_cons (pe_c G_law_draw hr (by decide) rfl (pa_cons (pv 0) (pa_cons pe_int pa_nil))) (pa_cons (pe_c G_law_draw hr (by decide) rfl (pa_cons (pv 0) (pa_cons (pe_op op_add (pe_callB call_len_seq (by rfl) T.b_len (by decide +kernel) (pa_cons (pv 1) pa_nil)) pe_int) pa_nil))) pa_nil)) (by rfl))
      (C8.pss_cut (ps_set (i := 3) sc_law_step.nd rfl (Or.inl rfl) (pe_ix (r := rIxL K) ix_list (pe_lc (own := [("row", 4)]) (g := gName 4) (by rfl) sc_law_step.nd (pi_list (pv 1)) (blkOk_by (own := [("row", 4)]) (N := ["stream", "rows", "some", "near", "row", "later", "way", "number"]) (sc := defScope s_law_step) (by decide +kernel)) (fun _ _ _ _ _ => pg_name (i := 4) sc_law_step.nd rfl (Or.inl rfl)) (fun _ _ _ _ _ => pts_nil) (fun _ _ _ _ _ => (pe_ix (r := rIxT K) ix_tup (pv 4) pe_int (fun _ _ => rfl)))) (pe_callB (call_min2 rfl) (by rfl) T.b_min (by decide +kernel) (pa_cons (pv 7) (pa_cons (pe_op op_sub (pe_callB call_len_seq (by rfl) T.b_len (by decide +kernel) (pa_cons (pv 1) pa_nil)) pe_int) pa_nil))) (fun _ _ => rfl)))
      (C8.pss_cut (ps_set (i := 4) sc_law_step.nd rfl (Or.inl rfl) (pe_tup (pa_cons (pe_callB (call_max2 rfl) (by rfl) T.b_max (by decide +kernel) (pa_cons pe_int (pa_cons (pe_op op_sub (pe_op op_add (pv 3) (pe_c G_law_draw hr (by decide) rfl (pa_cons (pv 0) (pa_cons pe_int pa_nil)))) pe_int) pa_nil))) (pa_cons (pe_c G_law_choose hr (by decide) rfl (pa_cons (pv 0) (pa_cons (pv 2) pa_nil))) pa_nil))))
      (pss_cons (ps_if (pt_cmpR op_eq (pv 6) pe_int (nomark _)) (pss_cons (ps_set (i := 5) sc_law_step.nd rfl (Or.inl rfl) (pe_op op_cat (pv 1) (pe_lst (pa_cons (pv 4) pa_nil))))
      (pss_cons (ps_if (pt_cmpR op_eq (pe_callB call_len_seq (by rfl) T.b_len (by decide +kernel) (pa_cons (pv 1) pa_nil)) pe_int (nomark _)) (pss_one (ps_ret (pe_lst (pa_cons (pe_tup (pa_cons pe_str (pa_cons (pv 4) pa_nil))) (pa_cons (pe_lst (pa_cons pe_str (pa_cons pe_int pa_nil))) pa_nil))))) pss_nil)
      (pss_one (ps_ret (pe_lst (pa_cons (pe_tup (pa_cons pe_str (pa_cons (pv 4) pa_nil))) (pa_cons (pe_ifExp (pt_val (pe_c G_law_good hr (by decide) rfl (pa_cons (pv 5) pa_nil))) (pv 5) (pe_lst (pa_cons pe_str (pa_cons (pe_callB call_len_seq (by rfl) T.b_len (by decide +kernel) (pa_cons (pv 1) pa_nil)) pa_nil)))) pa_nil))))))) pss_nil)
      (pss_cons (ps_if (pt_cmpR op_eq (pv 6) pe_int (nomark _)) (pss_one (ps_ret (pe_lst (pa_cons (pe_tup (pa_cons pe_str pa_nil)) (pa_cons (pe_ifExp (pt_cmpR op_gt (pe_callB call_len_seq (by rfl) T.b_len (by decide +kernel) (pa_cons (pv 1) pa_nil)) pe_int (nomark _)) (pe_slice sl_list (pv 1) po_none (po_some (pe_un un_neg pe_int))) (pe_lst (pa_cons pe_str (pa_cons pe_int pa_nil)))) pa_nil))))) pss_nil)
      (pss_cons (ps_if (pt_cmpR op_eq (pv 7) (pe_callB call_len_seq (by rfl) T.b_len (by decide +kernel) (pa_cons (pv 1) pa_nil)) (nomark _)) (pss_one (ps_ret (pe_lst (pa_cons (pe_tup (pa_cons pe_str (pa_cons (pv 7) (pa_cons (pv 4) pa_nil)))) (pa_cons (pe_lst (pa_cons pe_str (pa_cons (pv 7) pa_nil))) pa_nil))))) pss_nil)
      (pss_cons (ps_set (i := 5) sc_law_step.nd rfl (Or.inl rfl) (pe_op op_cat (pe_op op_cat (pe_slice sl_list (pv 1) po_none (po_some (pv 7))) (pe_lst (pa_cons (pv 4) pa_nil))) (pe_slice sl_list (pv 1) (po_some (pe_op op_add (pv 7) pe_int)) po_none)))
      (pss_one (ps_ret (pe_lst (pa_cons (pe_tup (pa_cons pe_str (pa_cons (pv 7) (pa_cons (pv 4) pa_nil)))) (pa_cons (pe_ifExp (pt_val (pe_c G_law_good hr (by decide) rfl (pa_cons (pv 5) pa_nil))) (pv 5) (pe_lst (pa_cons pe_str (pa_cons (pv 7) pa_nil)))) pa_nil)))))))))))), ?_⟩
    have lrp : lr ≠ p := sA.no er frefs9
    have lsp : ls ≠ p := sA.no es_ frefs9
    refine ⟨fun σ' H' => ∃ (w n : Nat), σ' = [some (.ref p), some (.ref lr), some (.ref ls), none, none, none, some (.int (w : Nat)), some (.int (n : Nat))] ∧ w < 4 ∧ n ≤ es.length ∧ StA H' p ∧ SameB p H H', ?_, ?_⟩
    · refine ⟨_, rfl, use_drawB sA (by decide) (by decide +kernel) fun x1 H1 x10 x11 t1 s1 => ?_⟩
      refine ⟨_, rfl, _, rfl, lr, _, rfl, .inl (SqL.of (s1 _ _ er lrp)), _, _, rfl, rfl, ?_⟩
      rw [List.length_map]
      refine use_drawB t1 (by omega) (Nat.lt_of_le_of_lt (show ((es.length : Int) + 1).natAbs ≤ 8 by omega) (by decide +kernel)) fun x2 H2 x20 x21 t2 s2 => ?_
      refine ⟨_, _, rfl, x1.toNat, x2.toNat, ?_, by omega, by omega, t2, s1.trans s2⟩
      rw [show ((x1.toNat : Nat) : Int) = x1 by omega, show ((x2.toNat : Nat) : Int) = x2 by omega]; rfl
    rintro _ H1 ⟨w9, n, rfl, w4, nl, t1, s1⟩
    have er1 := s1 _ _ er lrp
    have at1 : ∀ e ∈ es, EdAt C (hid [p] H1) e := fun e he => (at_ e he).same (hidB s1)
    refine ⟨fun σ' H' => ∃ (m : Int), σ' = [some (.ref p), some (.ref lr), some (.ref ls), some (.int m), none, none, some (.int (w9 : Nat)), some (.int (n : Nat))] ∧ 0 ≤ m ∧ m ≤ hi ∧ Same H1 H', ?_, ?_⟩
    · refine ⟨_, rfl, lr, rfl, ⟨_, SqL.of er1⟩, fun D nD => ?_⟩
      refine lc_list (K := K) (a := lr) (xs := es.map Ed.v) (fun j H' => H' D = some (.lst (((es.take j).map Ed.m).map V.int)) ∧ Same H1 H') ⟨upd_same, same_new nD⟩ (fun j H' _ ⟨_, s⟩ => SqL.of (s _ _ er1)) ?_ ?_
      · rintro j y H2 hy ⟨eD, s2⟩
        obtain ⟨e, he, rfl⟩ := ed_at hy
        have ae := ((at1 e (List.mem_of_getElem? he)).same hid_same).same s2
        refine ⟨rfl, K09C.yes_if ?_⟩
        refine ⟨_, rfl, e.t, _, 0, _, rfl, rfl, SqT.of ae.tp, atI_nat (j := 0) rfl, _, eD, by rw [List.length_map, List.length_map, List.length_take, sizeLine_eq]; omega, ?_, same_mut s2 nD⟩
        rw [upd_same, List.take_succ, he, List.map_append, List.map_append]; rfl
      · rintro H2 ⟨eD, s2⟩
        rw [List.length_map, List.take_length] at eD
        refine ⟨_, rfl, _, rfl, lr, _, rfl, .inl (SqL.of (s2 _ _ er1)), _, _, rfl, rfl, _, _, rfl, ?_⟩
        rw [List.length_map]
        obtain ⟨j, hj, ej⟩ : ∃ j : Nat, j < es.length ∧ (if ((es.length : Nat) : Int) - 1 < ((n : Nat) : Int) then ((es.length : Nat) : Int) - 1 else ((n : Nat) : Int)) = ((j : Nat) : Int) := by
          by_cases c : ((es.length : Nat) : Int) - 1 < ((n : Nat) : Int)
          · exact ⟨es.length - 1, by omega, by rw [if_pos c]; omega⟩
          · exact ⟨n, by omega, by rw [if_neg c]⟩
        obtain ⟨e, he⟩ : ∃ e, es[j]? = some e := ⟨_, List.getElem?_eq_getElem hj⟩
        have b := bd e (List.mem_of_getElem? he)
        refine ⟨D, _, _, .int e.m, rfl, rfl, SqL.of eD, by rw [ej]; exact atI_nat (j := j) (by rw [List.getElem?_map, List.getElem?_map, he]; rfl), e.m, rfl, b.1, b.2, s2⟩
    rintro _ H2 ⟨m, rfl, m0, mh, s12⟩
    have t2 := t1.keep s12
    have s2 := s1.trans (SameB.of s12)
    have es2 := s2 _ _ es_ lsp
    refine ⟨fun σ' H' => ∃ (e : Ed), σ' = [some (.ref p), some (.ref lr), some (.ref ls), some (.int m), some (.ref e.t), none, some (.int (w9 : Nat)), some (.int (n : Nat))] ∧ EdAt C (hid [p] H') e ∧ 0 ≤ e.m ∧ e.m ≤ hi + 3 ∧ StA H' p ∧ SameB p H H', ?_, ?_⟩
    · refine ⟨_, rfl, _, rfl, use_drawB t2 (by decide) (by decide +kernel) fun x1 H3 x10 x11 t3 s3 => ?_⟩
      have es3 := s3 _ _ es2 lsp
      refine ⟨_, _, rfl, rfl, _, _, rfl, rfl, _, _, rfl, ?_⟩
      refine ⟨_, rfl, _, rfl, use_choose t3 (SqL.of es3) lsp (by rw [List.length_map]; omega) (by rw [List.length_map]; omega) fun v H4 hv t4 s4 => ?_⟩
      obtain ⟨q, hq, rfl⟩ := List.mem_map.mp hv
      have s04 := (s2.trans s3).trans s4
      have cq := ca q hq
      refine ⟨by show 2 ≤ sizeLine; decide, fun t nt => ?_⟩
      have tp : t ≠ p := t4.ne nt
      have g := same_new (o := .tup [.int (if m + x1 - 3 > 0 then m + x1 - 3 else 0), .ref q.1]) nt
      refine ⟨⟨(if m + x1 - 3 > 0 then m + x1 - 3 else 0), t, q.1, q.2⟩, rfl, ⟨hid_in upd_same fun z => tp (List.mem_singleton.mp z), (cq.1.same (hidB s04)).same (hidB (SameB.of g)), cq.2⟩, ?_, ?_, t4.keep g, s04.trans (SameB.of g)⟩
      · show (0 : Int) ≤ (if m + x1 - 3 > 0 then m + x1 - 3 else 0)
        split <;> omega
      · show (if m + x1 - 3 > 0 then m + x1 - 3 else 0) ≤ hi + 3
        split <;> omega
    rintro _ H3 ⟨e, rfl, ae, e0, eh, t3, s3⟩
    have er3 := s3 _ _ er lrp
    have at3 : ∀ a ∈ es, EdAt C (hid [p] H3) a := fun a ha => (at_ a ha).same (hidB s3)
    have fin : ∀ (d : Deed) (L st du : Addr) (H' : Hp), Same H3 H' → L ≠ p → H' L = some (.lst [.ref st, .ref du]) → H' st = some (.tup d.row) → H' du = some (.lst (dueV (dueE es d))) → du ≠ p → DeedAt C (hid [p] H3) es (hi + 3) d → Q (.ref L) H' := fun d L st du H' s a b c dd ee f => k L st du d H' a b c dd ee (f.same (hidB (SameB.of s))) (t3.keep s) (s3.trans (SameB.of s))
    have eF : ∀ {es' : List Ed} {H' : Hp}, Same H3 H' → (∀ a ∈ es', EdAt C (hid [p] H3) a) → ∀ a ∈ es', EdAt C H' a := fun s h a ha => (h a ha).same (hid_same.trans s)
    by_cases c0 : V.int (w9 : Nat) = V.int 0
    · refine ⟨_, rfl, rfl, _, rfl, iteTe (decide_eq_true c0) ?_⟩
      refine ⟨_, rfl, _, rfl, by show 1 ≤ sizeLine; decide, fun l1 m1 => ?_⟩
      have g1 := same_new (o := .lst [.ref e.t]) m1
      have el1 : upd H3 l1 (.lst [.ref e.t]) l1 = some (.lst [.ref e.t]) := upd_same
      generalize upd H3 l1 (.lst [.ref e.t]) = H4 at *
      refine ⟨lr, l1, _, _, rfl, rfl, g1 _ _ er3, el1, by rw [List.length_map, sizeLine_eq]; show es.length + 1 ≤ _; omega, fun l2 m2 => ?_⟩
      have g2 := g1.trans (same_new (o := .lst (es.map Ed.v ++ [.ref e.t])) m2)
      have el2 : upd H4 l2 (.lst (es.map Ed.v ++ [.ref e.t])) l2 = some (.lst ((es ++ [e]).map Ed.v)) := by rw [List.map_append]; exact upd_same
      have l2p : l2 ≠ p := (t3.keep g1).ne m2
      generalize upd H4 l2 (.lst (es.map Ed.v ++ [.ref e.t])) = H5 at *
      have ed2 : ∀ a ∈ es ++ [e], EdAt C (hid [p] H3) a := fun a ha => by
        rcases List.mem_append.mp ha with h | h
        · exact at3 a h
        · rw [List.mem_singleton.mp h]; exact ae
      refine ⟨_, rfl, lr, _, rfl, .inl (SqL.of (g2 _ _ er3)), ?_⟩
      rw [List.length_map]
      have stP : ∀ {H' : Hp} {q : Addr}, Same H3 H' → H' q = none → q ≠ p := fun s n => (t3.keep s).ne n
      have len9 : (es ++ [e]).length = es.length + 1 := List.length_append
      by_cases c7 : es.length = 7
      · refine ⟨rfl, _, rfl, iteTe (decide_eq_true (by rw [c7]; rfl)) ?_⟩
        refine ⟨_, rfl, by show 2 ≤ sizeLine; decide, fun st ms => ⟨by show 2 ≤ sizeLine; decide, fun du md => ⟨by show 2 ≤ sizeLine; decide, fun L mL => ?_⟩⟩⟩
        have q1 := same_new (o := .tup [.str "add", .ref e.t]) ms
        have q2 := same_new (o := .lst [.str "limit", .int 7]) md
        have q3 := same_new (o := .lst [.ref st, .ref du]) mL
        refine fin (.add e) L st du _ (g2.trans (q1.trans (q2.trans q3))) (stP (g2.trans (q1.trans q2)) mL) upd_same (q3 _ _ (q2 _ _ upd_same)) ?_ (stP (g2.trans q1) md) ⟨ae, e0, eh⟩
        have : dueV (dueE es (.add e)) = [.str "limit", .int 7] := by
          show dueV (if es.length = 7 then _ else _) = _
          rw [if_pos c7]; rfl
        rw [this]
        exact q3 _ _ upd_same
      refine ⟨rfl, _, rfl, iteFe (decide_eq_false fun z => by have := V.int.inj z; omega) ?_⟩
      refine ⟨_, rfl, by show 2 ≤ sizeLine; decide, fun st ms => ⟨_, rfl, ?_⟩⟩
      have q1 := same_new (o := .tup [.str "add", .ref e.t]) ms
      have gq := g2.trans q1
      unfold spGood
      refine ⟨l2, es ++ [e], rfl, q1 _ _ el2, eF gq ed2, by omega, by omega, fun H6 s6 => ⟨_, rfl, ?_⟩⟩
      have g6 := gq.trans s6
      by_cases cg : fwE (es ++ [e]) = none
      · refine iteTe (decide_eq_true cg) ⟨_, rfl, by show 2 ≤ sizeLine; decide, fun L mL => ?_⟩
        have q3 := same_new (o := .lst [.ref st, .ref l2]) mL
        refine fin (.add e) L st l2 _ (g6.trans q3) (stP g6 mL) upd_same (q3 _ _ (s6 _ _ upd_same)) ?_ l2p ⟨ae, e0, eh⟩
        have : dueV (dueE es (.add e)) = (es ++ [e]).map Ed.v := by
          show dueV (if es.length = 7 then _ else if fwE (es ++ [e]) = none then _ else _) = _
          rw [if_neg c7, if_pos cg]; rfl
        rw [this]
        exact q3 _ _ (s6 _ _ (q1 _ _ el2))
      · refine iteFe (decide_eq_false cg) ⟨_, rfl, lr, _, rfl, .inl (SqL.of (g6 _ _ er3)), by show 2 ≤ sizeLine; decide, fun du md => ⟨by show 2 ≤ sizeLine; decide, fun L mL => ?_⟩⟩
        have q2 := same_new (o := .lst [.str "plan", .int ((es.map Ed.v).length : Nat)]) md
        have q3 := same_new (o := .lst [.ref st, .ref du]) mL
        refine fin (.add e) L st du _ (g6.trans (q2.trans q3)) (stP (g6.trans q2) mL) upd_same (q3 _ _ (q2 _ _ (s6 _ _ upd_same))) ?_ (stP g6 md) ⟨ae, e0, eh⟩
        have : dueV (dueE es (.add e)) = [.str "plan", .int ((es.map Ed.v).length : Nat)] := by
          show dueV (if es.length = 7 then _ else if fwE (es ++ [e]) = none then _ else _) = _
          rw [if_neg c7, if_neg cg, List.length_map]; rfl
        rw [this]
        exact q3 _ _ upd_same
    refine ⟨_, rfl, rfl, _, rfl, iteFe (decide_eq_false c0) ?_⟩
    have stP : ∀ {H' : Hp} {q : Addr}, Same H3 H' → H' q = none → q ≠ p := fun s n => (t3.keep s).ne n
    by_cases c1 : V.int (w9 : Nat) = V.int 1
    · refine ⟨_, rfl, rfl, _, rfl, iteTe (decide_eq_true c1) ?_⟩
      refine ⟨by show 1 ≤ sizeLine; decide, fun st ms => ?_⟩
      have q1 := same_new (o := .tup [.str "drop"]) ms
      refine ⟨_, rfl, lr, _, rfl, .inl (SqL.of (q1 _ _ er3)), _, _, rfl, rfl, _, rfl, ?_⟩
      rw [List.length_map]
      by_cases cl : 1 < es.length
      · refine iteTe (decide_eq_true (by omega)) ?_
        refine ⟨_, rfl, 1, rfl, -1, rfl, lr, _, rfl, SqL.of (q1 _ _ er3), fun du md => ⟨by show 2 ≤ sizeLine; decide, fun L mL => ?_⟩⟩
        have cv : cutV (es.map Ed.v) none (some (-1)) = es.dropLast.map Ed.v := by
          have ne : es ≠ [] := fun z => by rw [z] at cl; exact absurd cl (by decide)
          have e9 := List.dropLast_concat_getLast ne
          have : es.map Ed.v = es.dropLast.map Ed.v ++ [Ed.v (es.getLast ne)] := by
            conv => lhs; rw [← e9]
            rw [List.map_append]; rfl
          rw [this]; exact cut_last
        have q2 := same_new (o := .lst (cutV (es.map Ed.v) none (some (-1)))) md
        have q3 := same_new (o := .lst [.ref st, .ref du]) mL
        refine fin .drop L st du _ (q1.trans (q2.trans q3)) (stP (q1.trans q2) mL) upd_same (q3 _ _ (q2 _ _ upd_same)) ?_ (stP q1 md) trivial
        have : dueV (dueE es .drop) = es.dropLast.map Ed.v := by
          show dueV (if 1 < es.length then _ else _) = _
          rw [if_pos cl]; rfl
        rw [this, ← cv]
        exact q3 _ _ upd_same
      · refine iteFe (decide_eq_false (by omega)) ?_
        refine ⟨by show 2 ≤ sizeLine; decide, fun du md => ⟨by show 2 ≤ sizeLine; decide, fun L mL => ?_⟩⟩
        have q2 := same_new (o := .lst [.str "edition", .int 0]) md
        have q3 := same_new (o := .lst [.ref st, .ref du]) mL
        refine fin .drop L st du _ (q1.trans (q2.trans q3)) (stP (q1.trans q2) mL) upd_same (q3 _ _ (q2 _ _ upd_same)) ?_ (stP q1 md) trivial
        have : dueV (dueE es .drop) = [.str "edition", .int 0] := by
          show dueV (if 1 < es.length then _ else _) = _
          rw [if_neg cl]; rfl
        rw [this]
        exact q3 _ _ upd_same
    refine ⟨_, rfl, rfl, _, rfl, iteFe (decide_eq_false c1) ?_⟩
    refine ⟨_, rfl, _, rfl, lr, _, rfl, .inl (SqL.of er3), ?_⟩
    rw [List.length_map]
    by_cases cn : n = es.length
    · refine ⟨rfl, _, rfl, iteTe (decide_eq_true (by rw [cn])) ?_⟩
      refine ⟨_, rfl, _, rfl, by show 3 ≤ sizeLine; decide, fun st ms => ⟨_, rfl, by show 2 ≤ sizeLine; decide, fun du md => ⟨by show 2 ≤ sizeLine; decide, fun L mL => ?_⟩⟩⟩
      have q1 := same_new (o := .tup [.str "set", .int (n : Nat), .ref e.t]) ms
      have q2 := same_new (o := .lst [.str "edition", .int (n : Nat)]) md
      have q3 := same_new (o := .lst [.ref st, .ref du]) mL
      refine fin (.set n e) L st du _ (q1.trans (q2.trans q3)) (stP (q1.trans q2) mL) upd_same (q3 _ _ (q2 _ _ upd_same)) ?_ (stP q1 md) ⟨ae, e0, eh, nl⟩
      have : dueV (dueE es (.set n e)) = [.str "edition", .int (n : Nat)] := by
        show dueV (if n = es.length then _ else _) = _
        rw [if_pos cn]; rfl
      rw [this]
      exact q3 _ _ upd_same
    refine ⟨rfl, _, rfl, iteFe (decide_eq_false fun z => cn (by have := V.int.inj z; omega)) ?_⟩
    have nlt : n < es.length := by omega
    have cvA : cutV (es.map Ed.v) none (some ((n : Nat) : Int)) = (es.take n).map Ed.v := by
      unfold cutV
      rw [HT.sIx_nat, HT.sIx_none, Nat.sub_zero, List.drop_zero, List.length_map, Nat.min_eq_left (by omega), List.map_take]
    have cvB : cutV (es.map Ed.v) (some (((n : Nat) : Int) + 1)) none = (es.drop (n + 1)).map Ed.v := by
      unfold cutV
      rw [show ((n : Nat) : Int) + 1 = ((n + 1 : Nat) : Int) by omega, HT.sIx_nat, HT.sIx_none, List.length_map, Nat.min_eq_left (by omega), List.map_drop]
      refine List.take_of_length_le ?_
      rw [List.length_drop, List.length_map]; exact Nat.le_refl _
    have setE : (es.take n).map Ed.v ++ [V.ref e.t] ++ (es.drop (n + 1)).map Ed.v = (es.set n e).map Ed.v := by
      rw [List.set_eq_take_append_cons_drop, if_pos nlt, List.map_append, List.map_cons, List.append_assoc]; rfl
    refine ⟨_, rfl, _, rfl, (n : Nat), rfl, lr, _, rfl, SqL.of er3, fun a1 ma => ?_⟩
    have g1 := same_new (o := .lst (cutV (es.map Ed.v) none (some ((n : Nat) : Int)))) ma
    have e1 : upd H3 a1 (.lst (cutV (es.map Ed.v) none (some ((n : Nat) : Int)))) a1 = some (.lst ((es.take n).map Ed.v)) := by rw [upd_same, cvA]
    generalize upd H3 a1 (.lst (cutV (es.map Ed.v) none (some ((n : Nat) : Int)))) = H4 at *
    refine ⟨_, rfl, by show 1 ≤ sizeLine; decide, fun b1 mb => ?_⟩
    have g2 := same_new (o := .lst [.ref e.t]) mb
    have e2 : upd H4 b1 (.lst [.ref e.t]) b1 = some (.lst [.ref e.t]) := upd_same
    have e12 := g2 _ _ e1
    have g12 := g1.trans g2
    generalize upd H4 b1 (.lst [.ref e.t]) = H5 at *
    refine ⟨a1, b1, _, _, rfl, rfl, e12, e2, by rw [List.length_map, List.length_take, sizeLine_eq]; show min n es.length + 1 ≤ _; omega, fun d1 md1 => ?_⟩
    have g3 := same_new (o := .lst ((es.take n).map Ed.v ++ [.ref e.t])) md1
    have e3 : upd H5 d1 (.lst ((es.take n).map Ed.v ++ [.ref e.t])) d1 = some (.lst ((es.take n).map Ed.v ++ [.ref e.t])) := upd_same
    have g13 := g12.trans g3
    generalize upd H5 d1 (.lst ((es.take n).map Ed.v ++ [.ref e.t])) = H6 at *
    refine ⟨_, rfl, _, rfl, _, _, rfl, rfl, ((n : Nat) : Int) + 1, rfl, lr, _, rfl, SqL.of (g13 _ _ er3), fun f1 mf => ?_⟩
    have g4 := same_new (o := .lst (cutV (es.map Ed.v) (some (((n : Nat) : Int) + 1)) none)) mf
    have e4 : upd H6 f1 (.lst (cutV (es.map Ed.v) (some (((n : Nat) : Int) + 1)) none)) f1 = some (.lst ((es.drop (n + 1)).map Ed.v)) := by rw [upd_same, cvB]
    have e34 := g4 _ _ e3
    have g14 := g13.trans g4
    generalize upd H6 f1 (.lst (cutV (es.map Ed.v) (some (((n : Nat) : Int) + 1)) none)) = H7 at *
    refine ⟨d1, f1, _, _, rfl, rfl, e34, e4, by rw [List.length_append, List.length_map, List.length_map, List.length_take, List.length_drop, sizeLine_eq]; show min n es.length + 1 + _ ≤ _; omega, fun l2 m2 => ?_⟩
    have g5 := same_new (o := .lst ((es.take n).map Ed.v ++ [.ref e.t] ++ (es.drop (n + 1)).map Ed.v)) m2
    have el2 : upd H7 l2 (.lst ((es.take n).map Ed.v ++ [.ref e.t] ++ (es.drop (n + 1)).map Ed.v)) l2 = some (.lst ((es.set n e).map Ed.v)) := by rw [upd_same, setE]
    have l2p : l2 ≠ p := stP g14 m2
    have g2 := g14.trans g5
    generalize upd H7 l2 (.lst ((es.take n).map Ed.v ++ [.ref e.t] ++ (es.drop (n + 1)).map Ed.v)) = H8 at *
    have ed2 : ∀ a ∈ es.set n e, EdAt C (hid [p] H3) a := fun a ha => by
      rcases List.mem_or_eq_of_mem_set ha with h | h
      · exact at3 a h
      · rw [h]; exact ae
    have ln : (es.set n e).length = es.length := List.length_set
    refine ⟨_, rfl, _, rfl, by show 3 ≤ sizeLine; decide, fun st ms => ⟨_, rfl, ?_⟩⟩
    have q1 := same_new (o := .tup [.str "set", .int (n : Nat), .ref e.t]) ms
    have gq := g2.trans q1
    unfold spGood
    refine ⟨l2, es.set n e, rfl, q1 _ _ el2, eF gq ed2, by omega, by omega, fun H9 s6 => ⟨_, rfl, ?_⟩⟩
    have g6 := gq.trans s6
    by_cases cg : fwE (es.set n e) = none
    · refine iteTe (decide_eq_true cg) ⟨_, rfl, by show 2 ≤ sizeLine; decide, fun L mL => ?_⟩
      have q3 := same_new (o := .lst [.ref st, .ref l2]) mL
      refine fin (.set n e) L st l2 _ (g6.trans q3) (stP g6 mL) upd_same (q3 _ _ (s6 _ _ upd_same)) ?_ l2p ⟨ae, e0, eh, nl⟩
      have : dueV (dueE es (.set n e)) = (es.set n e).map Ed.v := by
        show dueV (if n = es.length then _ else if fwE (es.set n e) = none then _ else _) = _
        rw [if_neg cn, if_pos cg]; rfl
      rw [this]
      exact q3 _ _ (s6 _ _ (q1 _ _ el2))
    · refine iteFe (decide_eq_false cg) ⟨_, rfl, by show 2 ≤ sizeLine; decide, fun du md => ⟨by show 2 ≤ sizeLine; decide, fun L mL => ?_⟩⟩
      have q2 := same_new (o := .lst [.str "plan", .int (n : Nat)]) md
      have q3 := same_new (o := .lst [.ref st, .ref du]) mL
      refine fin (.set n e) L st du _ (g6.trans (q2.trans q3)) (stP (g6.trans q2) mL) upd_same (q3 _ _ (q2 _ _ (s6 _ _ upd_same))) ?_ (stP g6 md) ⟨ae, e0, eh, nl⟩
      have : dueV (dueE es (.set n e)) = [.str "plan", .int (n : Nat)] := by
        show dueV (if n = es.length then _ else if fwE (es.set n e) = none then _ else _) = _
        rw [if_neg cn, if_neg cg]; rfl
      rw [this]
      exact q3 _ _ upd_same
end
end K09
namespace K09
open PySem PySem.Spec PyProof.Rows L2 Jg
local macro_rules | `(tactic| walk_at "rd1") => `(tactic| (first
  | refine ⟨_, rfl, ?_⟩
  | refine ⟨_, _, rfl, rfl, ?_⟩
  | refine ⟨_, _, rfl, ?_⟩
  | refine ⟨rfl, ?_⟩
  | (refine ⟨show (0 : Int) < _ by omega, ?_⟩)
  | (refine ⟨Or.inl ⟨by omega, by omega⟩, ?_⟩)
  | (refine ⟨Or.inr ⟨by omega, by omega⟩, ?_⟩)
  | (refine ⟨(⟨by decide, by decide, by decide⟩ : CPow _ _), ?_⟩)
  | refine Or.inl ⟨_, rfl, ?_⟩
  | refine Or.inr ⟨_, rfl, ?_⟩
  | fail "rd"))
local macro_rules | `(tactic| walk_at "rd") => `(tactic| repeat' walk_at "rd1")
open K09C (Ct CAt CtOk hid hid_in hid_get hid_same)
/-- the number that is told when a step is taken -/
def okV (es : List Ed) : Deed → V
  | .add _ => .int es.length
  | _ => .non
@[irreducible] def spDone (PC C : Addr) : Sp := fun vs H Q _ => ∃ (p st : Addr) (es : List Ed) (d : Deed), vs = [.ref p, .ref st] ∧ PlX PC C H p es ∧ H st = some (.tup d.row) ∧ DeedAt C (hid [p] H) es LM d ∧
  (∀ es', dueE es d = .inl es' → ∀ (l : Addr) (es2 : List Ed) (H' : Hp), H l = none → SameP p H H' → PlX PC C H' p es2 → es2.map Ed.k = es'.map Ed.k → H' l = some (.lst [.str "number", okV es d]) → Q (.ref l) H') ∧
  (∀ a i, dueE es d = .inr (a, i) → ∀ (l : Addr) (H' : Hp), H l = none → Same H H' → H' l = some (.lst [.str a, .int i]) → Q (.ref l) H')
section
variable {P : Program} {w : World} {K : PySem.W.Frag} {mg : Str → Option Value} {base : Heap} {C PC CU CE CO CP CM RC FC KC : Addr} {st1 st2 st3 : Stmt}
theorem sc_law_done : FnScope ["plan", "step", "e"] ["plan", "step"] (defScope s_law_done) := ⟨rfl, rfl, rfl, by decide +kernel, rfl, by decide +kernel, by decide +kernel⟩
theorem ok_done (D : DefK K mg "_law_done" s_law_done) (PT : PTx K mg PC) (W9 : TstD K PC CE CP CO) (U : K09F.ExnQ K mg "UnknownEdition" CE "UnknownEdition.__init__" st1 "number") (I9 : K09F.ExnQ K mg "InvalidPlan" CP "InvalidPlan.__init__" st2 "number") (O9 : K09F.ExnQ K mg "LimitExceeded" CO "LimitExceeded.__init__" st3 "limit") (M_add : Met P w K mg base (L2.CX P w) 7 PC "add" (spPAddX PC C CO CP)) (M_drop : Met P w K mg base (L2.CX P w) 3 PC "drop" (spPDropX PC C CE)) (M_set : Met P w K mg base (L2.CX P w) 7 PC "__setitem__" (spPSetX PC C CE CP)) : Cal P w K mg base CX0 9 "_law_done" (spDone PC C) := by
  refine D.cal sc_law_done (fun _ _ _ _ _ _ us hl => match us, hl with | [_, _], _ => rfl) (fun vs H Q E h => ?_) fun f0 cdv A outer s H vs Q E hr h => ?_
  · unfold spDone at h; obtain ⟨p, st, es, d, rfl, _⟩ := h; rfl
  · unfold spDone at h; obtain ⟨p, st, es, d, rfl, pl, est, da, ky, kn⟩ := h
    refine ⟨_, (pss_one (ps_tryT (.named (i := 2) rfl rfl ⟨rfl, by decide, .inl U.mg_⟩ (fun a oe cls d pn hz hf => pss_one (ps_ret (pe_lst (pa_cons pe_str (pa_cons (pe_xf U.xk.xf U.no hz hf (pv 2)) pa_nil))))) (.named (i := 2) rfl rfl ⟨rfl, by decide, .inl I9.mg_⟩ (fun a oe cls d pn hz hf => pss_one (ps_ret (pe_lst (pa_cons pe_str (pa_cons (pe_xf I9.xk.xf I9.no hz hf (pv 2)) pa_nil))))) (.named (i := 2) rfl rfl ⟨rfl, by decide, .inl O9.mg_⟩ (fun a oe cls d pn hz hf => pss_one (ps_ret (pe_lst (pa_cons pe_str (pa_cons (pe_xf O9.xk.xf O9.no hz hf (pv 2)) pa_nil))))) .cut))) rfl rfl sc_law_done.nd takes0 (fun W pn xe tk _ => (pss_cons (ps_if (pt_cmpR op_eq (pe_ix (r := rIxT K) ix_tup (pv 1) pe_int (fun _ _ => rfl)) pe_str (nomark _)) (pss_one (ps_ret (pe_lst (pa_cons pe_str (pa_cons (pe_mS M_add PT.cl tk hr (by decide) (pv 0) (pa_cons (pe_ix (r := rIxT K) ix_tup (pe_ix (r := rIxT K) ix_tup (pv 1) pe_int (fun _ _ => rfl)) pe_int (fun _ _ => rfl)) (pa_cons (pe_ix (r := rIxT K) ix_tup (pe_ix (r := rIxT K) ix_tup (pv 1) pe_int (fun _ _ => rfl)) pe_int (fun _ _ => rfl)) pa_nil))) pa_nil))))) pss_nil) (pss_cons (ps_if (pt_cmpR op_eq (pe_ix (r := rIxT K) ix_tup (pv 1) pe_int (fun _ _ => rfl)) pe_str (nomark _)) (pss_one (ps_ret (pe_lst (pa_cons pe_str (pa_cons (pe_mzS M_drop PT.cl tk hr (by decide) (pv 0)) pa_nil))))) pss_nil) (pss_cons (ps_asg (pe_ix (r := rIxT K) ix_tup (pv 1) pe_int (fun _ _ => rfl)) (pg_subO M_set W9.ns tk hr (by decide) (pv 0) (pe_ix (r := rIxT K) ix_tup (pv 1) pe_int (fun _ _ => rfl)))) (pss_one (ps_ret (pe_lst (pa_cons pe_str (pa_cons pe_non pa_nil))))))))))), ?_⟩
    obtain ⟨dx, l9, ep, el9⟩ := id pl.ex
    have frp : ∀ {l : Addr} {es2 : List Ed} {H' : Hp}, SameP p H H' → PlX PC C H' p es2 → H' l = none → H l = none := fun {l es2 H'} sP p2 n => by
      obtain ⟨dx2, l2, e2, _⟩ := p2.ex
      have np : l ≠ p := fun z => by rw [z, e2] at n; cases n
      cases c : H l with
      | none => rfl
      | some o => rw [sP _ _ c np] at n; cases n
    cases d with
    | add e =>
      obtain ⟨ae, m0, mL⟩ := da
      have at_ := ae.same hid_same
      refine ⟨_, rfl, st, _, 0, _, rfl, rfl, SqT.of est, atI_nat (j := 0) rfl, rfl, _, rfl, iteTe (decide_eq_true rfl) ?_⟩
      refine ⟨_, rfl, p, dx, _, rfl, ep, get_eno _ (by decide +kernel), _, rfl, st, _, 1, _, rfl, rfl, SqT.of est, atI_nat (j := 1) rfl, e.t, _, 0, _, rfl, rfl, SqT.of at_.tp, atI_nat (j := 0) rfl, _, rfl, st, _, 1, _, rfl, rfl, SqT.of est, atI_nat (j := 1) rfl, e.t, _, 1, _, rfl, rfl, SqT.of at_.tp, atI_nat (j := 1) rfl, ?_⟩
      unfold spPAddX
      refine ⟨p, e.m, e.x, es, e.c, rfl, pl, ae.ct, ae.ok, m0, mL, ?_⟩
      have n7 := pl.ok.n7
      have ft : fwE (es ++ [(⟨e.m, 0, e.x, e.c⟩ : Ed)]) = fwE (es ++ [e]) := fwE_mc (by rw [List.map_append, List.map_append]; rfl)
      by_cases c7 : es.length = 7
      · refine .inl ⟨c7, fun d' H' nd s' ed => ⟨false, W9.xOE, (fun z => nomatch z), fun _ => ⟨false, W9.xOP, (fun z => nomatch z), fun _ => ⟨true, O9.te, fun _ a na => ⟨_, rfl, rfl, rfl, d', _, _, rfl, ed, rfl, by show 2 ≤ sizeLine; decide, fun l nl => kn "limit" 7 ?_ l _ (s'.free nl) (s'.trans (same_new nl)) upd_same⟩, fun z => nomatch z⟩⟩⟩⟩
        show (if es.length = 7 then _ else _) = _
        rw [if_pos c7]
      by_cases cg : fwE (es ++ [e]) = none
      · refine .inr (.inl ⟨by omega, by rw [ft]; exact cg, fun t H' sP p2 => ⟨by show 2 ≤ sizeLine; decide, fun l nl => ?_⟩⟩)
        refine ky (es ++ [e]) ?_ l (es ++ [⟨e.m, t, e.x, e.c⟩]) _ (frp sP p2 nl) (fun q o a b => same_new nl _ _ (sP q o a b)) (p2.same (same_new nl)) (by rw [List.map_append, List.map_append]; rfl) upd_same
        show (if es.length = 7 then _ else if fwE (es ++ [e]) = none then _ else _) = _
        rw [if_neg c7, if_pos cg]
      · refine .inr (.inr ⟨by omega, by rw [ft]; exact cg, fun d' H' nd s' ed => ⟨false, W9.xPE, (fun z => nomatch z), fun _ => ⟨true, I9.te, fun _ a na => ⟨_, rfl, rfl, rfl, d', _, _, rfl, ed, rfl, by show 2 ≤ sizeLine; decide, fun l nl => kn "plan" es.length ?_ l _ (s'.free nl) (s'.trans (same_new nl)) upd_same⟩, fun z => nomatch z⟩⟩⟩)
        show (if es.length = 7 then _ else if fwE (es ++ [e]) = none then _ else _) = _
        rw [if_neg c7, if_neg cg]
    | drop =>
      refine ⟨_, rfl, st, _, 0, _, rfl, rfl, SqT.of est, atI_nat (j := 0) rfl, rfl, _, rfl, iteFe (decide_eq_false (fun z => absurd (V.str.inj z) (by decide +kernel))) ?_⟩
      refine ⟨_, rfl, st, _, 0, _, rfl, rfl, SqT.of est, atI_nat (j := 0) rfl, rfl, _, rfl, iteTe (decide_eq_true rfl) ?_⟩
      refine ⟨_, rfl, p, dx, _, rfl, ep, get_eno _ (by decide +kernel), ?_⟩
      unfold spPDropX
      have n1 := pl.ok.n1
      refine ⟨p, es, rfl, pl, ?_⟩
      by_cases c1 : 1 < es.length
      · have ne : es ≠ [] := fun z => by rw [z] at c1; exact absurd c1 (by decide)
        refine .inr ⟨es.dropLast, es.getLast ne, (List.dropLast_concat_getLast ne).symm, by rw [List.length_dropLast]; omega, fun H' sP p2 => ⟨by show 2 ≤ sizeLine; decide, fun l nl => ?_⟩⟩
        refine ky es.dropLast ?_ l es.dropLast _ (frp sP p2 nl) (fun q o a b => same_new nl _ _ (sP q o a b)) (p2.same (same_new nl)) rfl upd_same
        show (if 1 < es.length then _ else _) = _
        rw [if_pos c1]
      · refine .inl ⟨by omega, fun d' H' nd s' ed => ⟨true, U.te, fun _ a na => ⟨_, rfl, rfl, rfl, d', _, _, rfl, ed, rfl, by show 2 ≤ sizeLine; decide, fun l nl => kn "edition" 0 ?_ l _ (s'.free nl) (s'.trans (same_new nl)) upd_same⟩, fun z => nomatch z⟩⟩
        show (if 1 < es.length then _ else _) = _
        rw [if_neg c1]
    | set n e =>
      obtain ⟨ae, m0, mL, nl⟩ := da
      refine ⟨_, rfl, st, _, 0, _, rfl, rfl, SqT.of est, atI_nat (j := 0) rfl, rfl, _, rfl, iteFe (decide_eq_false (fun z => absurd (V.str.inj z) (by decide +kernel))) ?_⟩
      refine ⟨_, rfl, st, _, 0, _, rfl, rfl, SqT.of est, atI_nat (j := 0) rfl, rfl, _, rfl, iteFe (decide_eq_false (fun z => absurd (V.str.inj z) (by decide +kernel))) ?_⟩
      refine ⟨_, rfl, st, _, 2, _, rfl, rfl, SqT.of est, atI_nat (j := 2) rfl, ?_⟩
      refine ⟨_, rfl, _, rfl, st, _, 1, _, rfl, rfl, SqT.of est, atI_nat (j := 1) rfl, p, dx, _, rfl, ep, ?_⟩
      unfold spPSetX
      refine ⟨p, n, e, es, rfl, pl, ae, m0, mL, ?_⟩
      by_cases cn : n = es.length
      · refine .inl ⟨cn, fun d' H' nd s' ed => ⟨true, U.te, fun _ a na => ⟨_, rfl, rfl, rfl, d', _, _, rfl, ed, rfl, by show 2 ≤ sizeLine; decide, fun l nl => kn "edition" n ?_ l _ (s'.free nl) (s'.trans (same_new nl)) upd_same⟩, fun z => nomatch z⟩⟩
        show (if n = es.length then _ else _) = _
        rw [if_pos cn]
      by_cases cg : fwE (es.set n e) = none
      · refine .inr (.inl ⟨by omega, cg, fun es' H' sP p2 ek => ⟨rfl, by show 2 ≤ sizeLine; decide, fun l nl => ?_⟩⟩)
        refine ky (es.set n e) ?_ l es' _ (frp sP p2 nl) (fun q o a b => same_new nl _ _ (sP q o a b)) (p2.same (same_new nl)) ek upd_same
        show (if n = es.length then _ else if fwE (es.set n e) = none then _ else _) = _
        rw [if_neg cn, if_pos cg]
      · refine .inr (.inr ⟨by omega, cg, fun d' H' nd s' ed => ⟨false, W9.xPE, (fun z => nomatch z), fun _ => ⟨true, I9.te, fun _ a na => ⟨_, rfl, rfl, rfl, d', _, _, rfl, ed, rfl, by show 2 ≤ sizeLine; decide, fun l nl => kn "plan" n ?_ l _ (s'.free nl) (s'.trans (same_new nl)) upd_same⟩, fun z => nomatch z⟩⟩⟩)
        show (if n = es.length then _ else if fwE (es.set n e) = none then _ else _) = _
        rw [if_neg cn, if_neg cg]
end
end K09
namespace K09
open PySem PySem.Spec PyProof.Rows L2 Jg
local macro_rules | `(tactic| walk_at "rd1") => `(tactic| (first
  | refine ⟨_, rfl, ?_⟩
  | refine ⟨_, _, rfl, rfl, ?_⟩
  | refine ⟨_, _, rfl, ?_⟩
  | refine ⟨rfl, ?_⟩
  | (refine ⟨show (0 : Int) < _ by omega, ?_⟩)
  | (refine ⟨Or.inl ⟨by omega, by omega⟩, ?_⟩)
  | (refine ⟨Or.inr ⟨by omega, by omega⟩, ?_⟩)
  | (refine ⟨(⟨by decide, by decide, by decide⟩ : CPow _ _), ?_⟩)
  | refine Or.inl ⟨_, rfl, ?_⟩
  | refine Or.inr ⟨_, rfl, ?_⟩
  | fail "rd"))
local macro_rules | `(tactic| walk_at "rd") => `(tactic| repeat' walk_at "rd1")
open K09C (Ct CAt CtOk ctB)
theorem ctB_refl (c : Ct) : ctB c c = true := by
  unfold ctB
  rw [decide_eq_true rfl, decide_eq_true rfl, decide_eq_true rfl, decide_eq_true rfl]; rfl
theorem k_mc {es rs : List Ed} (h : es.map Ed.k = rs.map Ed.k) : es.map Ed.mc = rs.map Ed.mc := by
  have e := congrArg (List.map fun q : Int × Addr × Ct => (q.1, q.2.2)) h
  rw [List.map_map, List.map_map] at e
  exact e
theorem mc_at {es rs : List Ed} (h : es.map Ed.mc = rs.map Ed.mc) (i : Nat) : (es[i]?).map Ed.mc = (rs[i]?).map Ed.mc := by rw [← List.getElem?_map, ← List.getElem?_map, h]
theorem mc_len {es rs : List Ed} (h : es.map Ed.mc = rs.map Ed.mc) : es.length = rs.length := by
  have := congrArg List.length h
  rwa [List.length_map, List.length_map] at this
def edG (a b : Option (Int × Ct)) : Bool := match a, b with
  | some a, some b => decide (a.1 = b.1) && ctB a.2 b.2
  | _, _ => true
theorem edF_G {es rs : List Ed} {i : Nat} : edF es rs i = edG ((es[i]?).map Ed.mc) ((rs[i]?).map Ed.mc) := by
  unfold edF edG
  cases es[i]? <;> cases rs[i]? <;> rfl
/-- whether two lists of editions are the same is said by their moments and contents -/
theorem eqEdB_mc {es es' rs rs' : List Ed} (h : es.map Ed.mc = es'.map Ed.mc) (h' : rs.map Ed.mc = rs'.map Ed.mc) : eqEdB es rs = eqEdB es' rs' := by
  unfold eqEdB
  have f : edF es rs = edF es' rs' := funext fun i => by rw [edF_G, edF_G, mc_at h, mc_at h']
  rw [f, mc_len h, mc_len h']
theorem allF_true {f : Nat → Bool} (h : ∀ i, f i = true) : ∀ k i, allF f i k = true
  | 0, _ => rfl
  | k + 1, i => by
    show (f i && allF f (i + 1) k) = true
    rw [h, allF_true h k]; rfl
theorem eqEdB_same {es rs : List Ed} (h : es.map Ed.mc = rs.map Ed.mc) : eqEdB es rs = true := by
  rw [eqEdB_mc (es' := rs) (rs' := rs) h rfl]
  unfold eqEdB
  rw [decide_eq_true rfl, Bool.true_and]
  refine allF_true (fun i => ?_) _ _
  unfold edF
  cases c : rs[i]? with
  | none => rfl
  | some a =>
    show edB a a = true
    unfold edB
    rw [decide_eq_true rfl, ctB_refl]; rfl
theorem cnt_mc {es rs : List Ed} (h : es.map Ed.mc = rs.map Ed.mc) (m : Int) : cntI es m = cntI rs m := by
  have e : ∀ l : List Ed, cntI l m = ((l.map Ed.mc).filter fun q => decide (q.1 ≤ m)).length := fun l => by
    unfold cntI
    rw [List.filter_map, List.length_map]; rfl
  rw [e, e, h]
/-- what `current` says, from the rows -/
theorem cur_rows {es rs : List Ed} (ok : EdsOk es) (h : es.map Ed.mc = rs.map Ed.mc) (m : Int) : optV (lastI es m es.length) = if 0 < cntI rs m then V.int ((cntI rs m : Int) - 1) else V.non := by
  rw [lastI_cnt ok _ (Nat.le_refl _), List.take_length, cnt_mc h]
  by_cases c : cntI rs m = 0
  · rw [if_pos c, if_neg (by omega)]; rfl
  · rw [if_neg c, if_pos (by omega)]
    show V.int ((cntI rs m - 1 : Nat) : Int) = _
    congr 1; omega
/-- a plan's editions stand as rows -/
theorem ok_mc {es rs : List Ed} (h : es.map Ed.mc = rs.map Ed.mc) : fwE es = fwE rs := fwE_mc h
end K09
namespace K09
open PySem PySem.Spec PyProof.Rows L2 Jg
local macro_rules | `(tactic| walk_at "rd1") => `(tactic| (first
  | refine ⟨_, rfl, ?_⟩
  | refine ⟨_, _, rfl, rfl, ?_⟩
  | refine ⟨_, _, rfl, ?_⟩
  | refine ⟨rfl, ?_⟩
  | (refine ⟨show (0 : Int) < _ by omega, ?_⟩)
  | (refine ⟨Or.inl ⟨by omega, by omega⟩, ?_⟩)
  | (refine ⟨Or.inr ⟨by omega, by omega⟩, ?_⟩)
  | (refine ⟨(⟨by decide, by decide, by decide⟩ : CPow _ _), ?_⟩)
  | refine Or.inl ⟨_, rfl, ?_⟩
  | refine Or.inr ⟨_, rfl, ?_⟩
  | fail "rd"))
local macro_rules | `(tactic| walk_at "rd") => `(tactic| repeat' walk_at "rd1")
open K09C (Ct CAt CtOk ctB)
theorem at_neg1 {xs : List V} {x : V} (h : 1 ≤ xs.length) (e : xs[xs.length - 1]? = some x) : atI xs (-1) = some x := by
  unfold atI ixN
  rw [if_neg (by decide), if_pos (by omega)]
  show xs[((-1 : Int) + (xs.length : Int)).toNat]? = some x
  rw [show ((-1 : Int) + (xs.length : Int)).toNat = xs.length - 1 by omega]; exact e
@[irreducible] def spRight9 (PC C : Addr) : Sp := fun vs H Q _ => ∃ (p lr : Addr) (es rs : List Ed), vs = [.ref p, .ref lr] ∧ PlAt PC C H p es ∧ H lr = some (.lst (rs.map Ed.v)) ∧ (∀ e ∈ rs, EdAt C H e) ∧ es.map Ed.k = rs.map Ed.k ∧ (∀ e ∈ rs, e.m + 10 ^ 30 ≤ LM) ∧ ∀ H', Same H H' → Q (.bl true) H'
section
variable {P : Program} {w : World} {K : PySem.W.Frag} {mg : Str → Option Value} {base : Heap} {C PC CU CE CO CP CM RC FC KC : Addr}
theorem sc_law_is_right : FnScope ["plan", "rows", "moment", "number", "row", "behind"] ["plan", "rows"] (defScope s_law_is_right) := ⟨rfl, rfl, rfl, by decide +kernel, rfl, by decide +kernel, by decide +kernel⟩
theorem ok_right9 (D : DefK K mg "_law_is_right" s_law_is_right) (T : TxP K mg) (J : K09C.CTx K mg C) (PT : PTx K mg PC) (PE2 : PEx K PC) (PG9 : ∀ f, PySem.W.findIn K (.ref PC) "__getitem__" = some (some (.ref f)) → PySem.W.fnIn K f = true) (M_plen : Met P w K mg base CX0 1 PC "__len__" (spPLen PC C)) (M_moms : Met P w K mg base CX0 1 PC "moments" (spPMoms PC C)) (M_get : Met P w K mg base (L2.CX P w) 5 PC "__getitem__" (spPGet PC C)) (M_pmo : Met P w K mg base (L2.CX P w) 5 PC "moment_of" (spPOf K PC C CE fun e => .int e.m)) (M_pco : Met P w K mg base (L2.CX P w) 5 PC "contents_of" (spPOf K PC C CE fun e => .ref e.x)) (M_cur : Met P w K mg base (L2.CX P w) 4 PC "current" (spCur K PC C CM)) (M_ceq : Met P w K mg base CX0 1 C "__eq__" (K09C.spCEq K C)) (M_peq : Met P w K mg base CX0 4 PC "__eq__" (spPEqB K PC C)) (M_Plan : Mak P w K mg base CX0 6 "Plan" PC (spPInit PC C)) : Cal P w K mg base CX0 9 "_law_is_right" (spRight9 PC C) := by
  refine D.cal sc_law_is_right (fun _ _ _ _ _ _ us hl => match us, hl with | [_, _], _ => rfl) (fun vs H Q E h => ?_) fun f0 cdv A outer s H vs Q E hr h => ?_
  · unfold spRight9 at h; obtain ⟨p, lr, es, rs, rfl, _⟩ := h; rfl
  · unfold spRight9 at h; obtain ⟨p, lr, es, rs, rfl, pl, er, ar, ek, bd, k⟩ := h
    have hu : (A.deeper (envOfC "_law_is_right" (defScope s_law_is_right) s.heap.objs.size f0 cdv)).units + 64 < cLine := hr.units
    refine ⟨_, (C8.pss_cut (ps_if (PW.pt (pw_or (pt_cmpR op_ne (pe_callB (call_lenO M_plen hr (by decide)) (by rfl) T.b_len (by decide +kernel) (pa_cons (pv 0) pa_nil)) (pe_callB call_len_seq (by rfl) T.b_len (by decide +kernel) (pa_cons (pv 1) pa_nil)) (nomark _)) (pw_or1 (pt_cmpR (op_neD hu) (pe_mz M_moms PT.cl hr (by decide) (pv 0)) (pe_lc (own := [("row", 4)]) (g := gName 4) (by rfl) sc_law_is_right.nd (pi_list (pv 1)) (blkOk_by (own := [("row", 4)]) (N := ["plan", "rows", "moment", "number", "row", "behind"]) (sc := defScope s_law_is_right) (by decide +kernel)) (fun _ _ _ _ _ => pg_name (i := 4) sc_law_is_right.nd rfl (Or.inl rfl)) (fun _ _ _ _ _ => pts_nil) (fun _ _ _ _ _ => (pe_ix (r := rIxT K) ix_tup (pv 4) pe_int (fun _ _ => rfl)))) (nomark _))))) (pss_one (ps_ret pe_bl)) pss_nil)
      (C8.pss_cut (ps_for PassesOwn.never rfl (pi_enum (by rfl) T.b_enumerate (pa_cons (pv 1) pa_nil)) (pg_tup rfl (pgs_cons (pg_name (i := 3) sc_law_is_right.nd rfl (Or.inl rfl)) (pgs_cons (pg_name (i := 4) sc_law_is_right.nd rfl (Or.inl rfl)) pgs_nil))) (pss_one (ps_if (PW.pt (pw_or (pt_cmpR (op_neTI M_ceq ceB_sp ceB_mono hr (by decide)) (pe_ixO M_get PG9 takes0 hr (by decide) (pv 0) (pv 3) (fun _ _ => rfl)) (pv 4) (nomark _)) (pw_or (pt_cmpR op_ne (pe_mS M_pmo PT.cl takes0 hr (by decide) (pv 0) (pa_cons (pv 3) pa_nil)) (pe_ix (r := rIxT K) ix_tup (pv 4) pe_int (fun _ _ => rfl)) (nomark _)) (pw_or1 (pt_cmpR (op_ne_c M_ceq J.ne J.mro hr (by decide)) (pe_mS M_pco PT.cl takes0 hr (by decide) (pv 0) (pa_cons (pv 3) pa_nil)) (pe_ix (r := rIxT K) ix_tup (pv 4) pe_int (fun _ _ => rfl)) (nomark _)))))) (pss_one (ps_ret pe_bl)) pss_nil)))
      (C8.pss_cut (ps_for PassesOwn.never rfl (pi_list (pe_lst (pa_cons pe_int (pa_cons (pe_ix (r := rIxT K) ix_tup (pe_ix (r := rIxL K) ix_list (pv 1) pe_int (fun _ _ => rfl)) pe_int (fun _ _ => rfl)) (pa_cons (pe_ix (r := rIxT K) ix_tup (pe_ix (r := rIxL K) ix_list (pv 1) (pe_un un_neg pe_int) (fun _ _ => rfl)) pe_int (fun _ _ => rfl)) (pa_cons (pe_op op_sub (pe_ix (r := rIxT K) ix_tup (pe_ix (r := rIxL K) ix_list (pv 1) (pe_un un_neg pe_int) (fun _ _ => rfl)) pe_int (fun _ _ => rfl)) pe_int) (pa_cons (pe_op op_add (pe_ix (r := rIxT K) ix_tup (pe_ix (r := rIxL K) ix_list (pv 1) (pe_un un_neg pe_int) (fun _ _ => rfl)) pe_int (fun _ _ => rfl)) (pe_op op_pow pe_int pe_int)) (pa_cons (pe_ix (r := rIxT K) ix_tup (pe_ix (r := rIxL K) ix_list (pv 1) (pe_op op_fdiv (pe_callB call_len_seq (by rfl) T.b_len (by decide +kernel) (pa_cons (pv 1) pa_nil)) pe_int) (fun _ _ => rfl)) pe_int (fun _ _ => rfl)) pa_nil)))))))) (pg_name (i := 2) sc_law_is_right.nd rfl (Or.inr rfl)) (pss_cons (ps_set (i := 5) sc_law_is_right.nd rfl (Or.inl rfl) (pe_callB call_len_seq (by rfl) T.b_len (by decide +kernel) (pa_cons (pe_lc (own := [("row", 4)]) (g := gName 4) (by rfl) sc_law_is_right.nd (pi_list (pv 1)) (blkOk_by (own := [("row", 4)]) (N := ["plan", "rows", "moment", "number", "row", "behind"]) (sc := defScope s_law_is_right) (by decide +kernel)) (fun _ _ _ _ _ => pg_name (i := 4) sc_law_is_right.nd rfl (Or.inl rfl)) (fun _ _ _ _ _ => (pts_one (pt_cmpR op_le (pe_ix (r := rIxT K) ix_tup (pv 4) pe_int (fun _ _ => rfl)) (pv 2) (nomark _)))) (fun _ _ _ _ _ => (pv 4))) pa_nil)))
      (pss_one (ps_if (PW.pt (pw_and (pt_cmpR op_ge (pv 2) pe_int (nomark _)) (pw_and1 (pt_cmpR op_ne (pe_mS M_cur PT.cl takes0 hr (by decide) (pv 0) (pa_cons (pv 2) pa_nil)) (pe_ifExp (pt_cmpR op_gt (pv 5) pe_int (nomark _)) (pe_op op_sub (pv 5) pe_int) pe_non) (nomark _))))) (pss_one (ps_ret pe_bl)) pss_nil))))
      (pss_one (ps_ret (pe_cmpR (op_eq_c M_peq hr (by decide)) (pv 0) (pe_mk M_Plan hr (by decide) rfl (pa_cons (pv 1) pa_nil)) (nomark _))))))), ?_⟩
    obtain ⟨dx, l, ep, el⟩ := id pl.ex
    have mc := k_mc ek
    have len := mc_len mc
    have n1 := pl.ok.n1
    have n7 := pl.ok.n7
    refine ⟨fun σ' H' => σ' = [some (.ref p), some (.ref lr), none, none, none, none] ∧ Same H H', ?_, ?_⟩
    · refine ⟨_, rfl, p, dx, _, rfl, ep, p, es, rfl, pl, es.length, rfl, by omega, by omega, _, rfl, lr, _, rfl, .inl (SqL.of er), ?_⟩
      rw [List.length_map, len]
      refine ⟨rfl, _, rfl, iteFe (by rw [decide_eq_true rfl]; rfl) ?_⟩
      refine ⟨_, rfl, p, dx, _, rfl, ep, get_eno _ (by decide +kernel), p, es, rfl, pl, fun lm H1 nlm s1 elm => ?_⟩
      have er1 := s1 _ _ er
      refine ⟨_, rfl, ?_⟩
      refine ⟨lr, rfl, ⟨_, SqL.of er1⟩, fun D nD => ?_⟩
      refine lc_list (K := K) (a := lr) (xs := rs.map Ed.v) (fun j H' => H' D = some (.lst (((rs.take j).map Ed.m).map V.int)) ∧ Same H1 H') ⟨upd_same, same_new nD⟩ (fun j H' _ ⟨_, s⟩ => SqL.of (s _ _ er1)) ?_ ?_
      · rintro j y H2 hy ⟨eD, s2⟩
        obtain ⟨e, he, rfl⟩ := ed_at hy
        have ae := (ar e (List.mem_of_getElem? he)).same (s1.trans s2)
        refine ⟨rfl, K09C.yes_if ?_⟩
        refine ⟨_, rfl, e.t, _, 0, _, rfl, rfl, SqT.of ae.tp, atI_nat (j := 0) rfl, _, eD, by rw [List.length_map, List.length_map, List.length_take, sizeLine_eq]; omega, ?_, same_mut s2 nD⟩
        rw [upd_same, List.take_succ, he, List.map_append, List.map_append]; rfl
      · rintro H2 ⟨eD, s2⟩
        rw [List.length_map, List.take_length] at eD
        have em : es.map (fun e => V.int e.m) = (rs.map Ed.m).map V.int := by
          have e := congrArg (List.map fun q : Int × Ct => V.int q.1) mc
          rw [List.map_map, List.map_map] at e
          rw [List.map_map]; exact e
        rw [em] at elm
        refine ask_neL (SqL.of (s2 _ _ elm)) (SqL.of eD) ⟨_, rfl, ?_⟩
        rw [decide_eq_true rfl]
        exact iteFe rfl ⟨rfl, s1.trans s2⟩
    rintro _ H1 ⟨rfl, s1⟩
    have er1 := s1 _ _ er
    refine ⟨fun σ' H' => (∃ v3 v4, σ' = [some (.ref p), some (.ref lr), none, v3, v4, none]) ∧ Same H1 H', ?_, ?_⟩
    · refine for_enum (a := lr) (xs := rs.map Ed.v) rfl er1 (fun j σ' H' => (∃ v3 v4, σ' = [some (.ref p), some (.ref lr), none, v3, v4, none]) ∧ Same H1 H') ⟨⟨_, _, rfl⟩, .refl _⟩ (fun j σ' H' h => h.2) ?_ ?_
      · rintro j y T0 σ' H2 hy ⟨⟨v3, v4, rfl⟩, s2⟩ nT
        obtain ⟨r, hr9, rfl⟩ := ed_at hy
        have sT := same_new' (o := .tup [.int (j : Nat), .ref r.t]) s2 nT
        obtain ⟨e, he⟩ : ∃ e, es[j]? = some e := ⟨_, List.getElem?_eq_getElem (by have := (List.getElem?_eq_some_iff.mp hr9).1; omega)⟩
        have kk : Ed.k e = Ed.k r := by
          have q := congrArg (fun l => l[j]?) ek
          simp only [List.getElem?_map, he, hr9] at q
          exact Option.some.inj q
        have em : e.m = r.m := congrArg (·.1) kk
        have ex : e.x = r.x := congrArg (·.2.1) kk
        have ec : e.c = r.c := congrArg (·.2.2) kk
        refine ⟨T0, _, rfl, SqT.of upd_same, rfl, _, _, rfl, _, _, rfl, rfl, ?_⟩
        generalize upd H2 T0 (.tup [.int (j : Nat), .ref r.t]) = H3 at *
        have s3 := s1.trans sT
        have pl3 := pl.same s3
        have ae := pl3.eds e (List.mem_of_getElem? he)
        have a9 := (ar r (List.mem_of_getElem? hr9)).same s3
        refine ⟨_, rfl, _, rfl, p, dx, _, rfl, s3 _ _ ep, ?_⟩
        unfold spPGet
        refine ⟨p, es, j, e, rfl, pl3, he, _, rfl, _, (ask_ed ae a9).1, fun H4 x4 => ⟨_, rfl, ?_⟩⟩
        have eb : edB e r = true := by unfold edB; rw [decide_eq_true em, ec, ctB_refl]; rfl
        rw [eb]
        refine iteFe rfl ?_
        have s4 := s3.trans x4
        have sT4 := sT.trans x4
        have pl4 := pl.same s4
        have ae4 := pl4.eds e (List.mem_of_getElem? he)
        have a4 := (ar r (List.mem_of_getElem? hr9)).same s4
        refine ⟨_, rfl, p, dx, _, rfl, s4 _ _ ep, get_eno _ (by decide +kernel), _, rfl, p, es, .int (j : Nat), rfl, pl4, .inl ⟨j, e, rfl, he, ?_⟩⟩
        refine ⟨_, rfl, r.t, _, 0, _, rfl, rfl, SqT.of a4.tp, atI_nat (j := 0) rfl, rfl, _, rfl, iteFe (by show (!decide (V.int e.m = V.int r.m)) = false; rw [em, decide_eq_true rfl]; rfl) ?_⟩
        refine ⟨_, rfl, p, dx, _, rfl, s4 _ _ ep, get_eno _ (by decide +kernel), _, rfl, p, es, .int (j : Nat), rfl, pl4, .inl ⟨j, e, rfl, he, ?_⟩⟩
        obtain ⟨dy, d, v, sg, g1, _⟩ := id ae4.ct.ex
        obtain ⟨dy2, d2, v2, sg2, g2, _⟩ := id a4.ct.ex
        refine ⟨_, rfl, r.t, _, 1, _, rfl, rfl, SqT.of a4.tp, atI_nat (j := 1) rfl, e.x, dy, _, .ref C, rfl, g1, J.ty g2, J.oCC, e.x, .ref r.x, e.c, _, rfl, ae4.ct, ae4.ok, .inl ⟨r.x, r.c, _, rfl, a4.ct, a4.ok, ?_⟩⟩
        rw [ec, ctB_refl]
        exact ⟨true, rfl, _, rfl, iteFe rfl ⟨⟨_, _, rfl⟩, sT4⟩⟩
      · rintro σ' H2 h
        exact h
    rintro _ H2 ⟨⟨v3, v4, rfl⟩, s12⟩
    have s2 := s1.trans s12
    have er2 := s2 _ _ er
    obtain ⟨r0, h0⟩ : ∃ r0, rs[0]? = some r0 := ⟨_, List.getElem?_eq_getElem (by omega)⟩
    refine ⟨fun σ' H' => (∃ v2 v4 v5, σ' = [some (.ref p), some (.ref lr), v2, v3, v4, v5]) ∧ Same H2 H', ?_, ?_⟩
    · have rl1 : rs.length - 1 < rs.length := by omega
      obtain ⟨rl, hl⟩ : ∃ rl, rs[rs.length - 1]? = some rl := ⟨_, List.getElem?_eq_getElem rl1⟩
      obtain ⟨rm, hm⟩ : ∃ rm, rs[rs.length / 2]? = some rm := ⟨_, List.getElem?_eq_getElem (by omega)⟩
      have al := at_neg1 (xs := rs.map Ed.v) (x := V.ref rl.t) (by rw [List.length_map]; omega) (by rw [List.length_map]; exact ed_get hl)
      have A0 := (ar r0 (List.mem_of_getElem? h0)).same s2
      have AL := (ar rl (List.mem_of_getElem? hl)).same s2
      have AM := (ar rm (List.mem_of_getElem? hm)).same s2
      have e2 : (((rs.map Ed.v).length : Int)) / 2 = ((rs.length / 2 : Nat) : Int) := by rw [List.length_map]; omega
      refine ⟨_, rfl, lr, _, _, .ref r0.t, rfl, rfl, SqL.of er2, atI_nat (j := 0) (ed_get h0), r0.t, _, 0, _, rfl, rfl, SqT.of A0.tp, atI_nat (j := 0) rfl, ?_⟩
      refine ⟨_, rfl, 1, rfl, lr, _, _, .ref rl.t, rfl, rfl, SqL.of er2, al, rl.t, _, 0, _, rfl, rfl, SqT.of AL.tp, atI_nat (j := 0) rfl, ?_⟩
      refine ⟨_, rfl, 1, rfl, lr, _, _, .ref rl.t, rfl, rfl, SqL.of er2, al, rl.t, _, 0, _, rfl, rfl, SqT.of AL.tp, atI_nat (j := 0) rfl, _, _, rfl, rfl, ?_⟩
      refine ⟨_, rfl, 1, rfl, lr, _, _, .ref rl.t, rfl, rfl, SqL.of er2, al, rl.t, _, 0, _, rfl, rfl, SqT.of AL.tp, atI_nat (j := 0) rfl, _, _, rfl, rfl, ⟨by decide, by decide, by decide⟩, _, _, rfl, rfl, ?_⟩
      refine ⟨_, rfl, _, rfl, lr, _, rfl, .inl (SqL.of er2), _, _, rfl, rfl, ⟨by decide, by decide⟩, lr, _, _, .ref rm.t, rfl, rfl, SqL.of er2, by rw [e2]; exact atI_nat (j := rs.length / 2) (ed_get hm), rm.t, _, 0, _, rfl, rfl, SqT.of AM.tp, atI_nat (j := 0) rfl, by show 6 ≤ sizeLine; decide, fun l6 n6 => ⟨l6, rfl, ⟨_, SqL.of upd_same⟩, ?_⟩⟩
      have p30 : (10 : Int) ^ (30 : Int).toNat = 10 ^ 30 := by decide +kernel
      have b30 : (0 : Int) ≤ 10 ^ 30 := by decide +kernel
      have bL : (0 : Int) ≤ LM := by decide +kernel
      have b0 := bd r0 (List.mem_of_getElem? h0)
      have b1 := bd rl (List.mem_of_getElem? hl)
      have b2 := bd rm (List.mem_of_getElem? hm)
      have few : ∀ y ∈ [V.int 0, V.int r0.m, V.int rl.m, V.int (rl.m - 1), V.int (rl.m + 10 ^ (30 : Int).toNat), V.int rm.m], ∃ m : Int, y = .int m ∧ m ≤ LM := fun y hy => by
        rw [p30] at hy
        simp only [List.mem_cons, List.not_mem_nil, or_false] at hy
        rcases hy with rfl | rfl | rfl | rfl | rfl | rfl
        · exact ⟨_, rfl, bL⟩
        · exact ⟨_, rfl, by omega⟩
        · exact ⟨_, rfl, by omega⟩
        · exact ⟨_, rfl, by omega⟩
        · exact ⟨_, rfl, b1⟩
        · exact ⟨_, rfl, by omega⟩
      have g6 := same_new (o := .lst [V.int 0, V.int r0.m, V.int rl.m, V.int (rl.m - 1), V.int (rl.m + 10 ^ (30 : Int).toNat), V.int rm.m]) n6
      have e6 : upd H2 l6 (.lst [V.int 0, V.int r0.m, V.int rl.m, V.int (rl.m - 1), V.int (rl.m + 10 ^ (30 : Int).toNat), V.int rm.m]) l6 = some (.lst [V.int 0, V.int r0.m, V.int rl.m, V.int (rl.m - 1), V.int (rl.m + 10 ^ (30 : Int).toNat), V.int rm.m]) := upd_same
      generalize upd H2 l6 (.lst [V.int 0, V.int r0.m, V.int rl.m, V.int (rl.m - 1), V.int (rl.m + 10 ^ (30 : Int).toNat), V.int rm.m]) = H3 at *
      generalize [V.int 0, V.int r0.m, V.int rl.m, V.int (rl.m - 1), V.int (rl.m + 10 ^ (30 : Int).toNat), V.int rm.m] = xs6 at *
      refine for_list (K := K) (a := l6) (xs := xs6) (fun n sg H' => (∃ v2 v4 v5, sg = [some (.ref p), some (.ref lr), v2, v3, v4, v5]) ∧ Same H3 H') ⟨⟨_, _, _, rfl⟩, .refl _⟩ (fun n sg H' _ ⟨_, s⟩ => SqL.of (s _ _ e6)) ?_ ?_
      · rintro n y sg H4 hy ⟨⟨v2, v4, v5, rfl⟩, s34⟩
        obtain ⟨m, rfl, mL⟩ := few y (List.mem_of_getElem? hy)
        have s4 := (s2.trans g6).trans s34
        have er4 := s4 _ _ er
        refine ⟨_, rfl, lr, rfl, ⟨_, SqL.of er4⟩, fun D nD => ?_⟩
        refine lc_list (K := K) (a := lr) (xs := rs.map Ed.v) (fun j H' => H' D = some (.lst (((rs.take j).filter fun e => decide (e.m ≤ m)).map Ed.v)) ∧ Same H4 H') ⟨upd_same, same_new nD⟩ (fun j H' _ ⟨_, s⟩ => SqL.of (s _ _ er4)) ?_ ?_
        · rintro j y H5 hy ⟨eD, s45⟩
          obtain ⟨e, he, rfl⟩ := ed_at hy
          have ae := (ar e (List.mem_of_getElem? he)).same (s4.trans s45)
          refine ⟨rfl, ?_⟩
          have nx : (rs.take (j + 1)).filter (fun e => decide (e.m ≤ m)) = (rs.take j).filter (fun e => decide (e.m ≤ m)) ++ (if e.m ≤ m then [e] else []) := by
            rw [List.take_succ, he, List.filter_append]
            show _ ++ List.filter _ [e] = _
            by_cases c : e.m ≤ m
            · rw [if_pos c, List.filter_cons_of_pos (by exact decide_eq_true c)]; rfl
            · rw [if_neg c, List.filter_cons_of_neg (by rw [decide_eq_false c]; decide)]; rfl
          refine ⟨_, rfl, e.t, _, 0, _, rfl, rfl, SqT.of ae.tp, atI_nat (j := 0) rfl, _, rfl, _, _, rfl, rfl, _, rfl, ?_⟩
          by_cases c : e.m ≤ m
          · refine iteTe (decide_eq_true c) ⟨_, rfl, _, eD, ?_, ?_, same_mut s45 nD⟩
            · have := List.length_filter_le (fun e : Ed => decide (e.m ≤ m)) (rs.take j)
              rw [List.length_take] at this
              rw [List.length_map, sizeLine_eq]; omega
            · rw [upd_same, nx, if_pos c, List.map_append]; rfl
          · refine iteFe (decide_eq_false c) ⟨?_, s45⟩
            rw [nx, if_neg c, List.append_nil]; exact eD
        · rintro H5 ⟨eD, s45⟩
          rw [List.length_map, List.take_length] at eD
          refine ⟨D, _, rfl, .inl (SqL.of eD), ?_⟩
          rw [List.length_map]
          have s5 := s4.trans s45
          refine ⟨_, rfl, _, _, rfl, rfl, _, rfl, ?_⟩
          by_cases c0 : 0 ≤ m
          · refine iteTe (decide_eq_true c0) ?_
            refine ⟨_, rfl, p, dx, _, rfl, s5 _ _ ep, get_eno _ (by decide +kernel), _, rfl, ?_⟩
            unfold spCur
            refine ⟨p, .int m, es, rfl, pl.same s5, .inl ⟨m, rfl, c0, mL, fun H6 s56 => ?_⟩⟩
            rw [cur_rows pl.ok mc m]
            by_cases cc : 0 < cntI rs m
            · rw [if_pos cc]
              refine ⟨_, rfl, _, _, rfl, rfl, _, rfl, iteTe (decide_eq_true (by show (0 : Int) < (cntI rs m : Nat); omega)) ⟨_, rfl, _, _, rfl, rfl, ?_⟩⟩
              refine ⟨rfl, _, rfl, iteFe (by show (!decide (V.int ((cntI rs m : Int) - 1) = V.int ((cntI rs m : Int) - 1))) = false; rw [decide_eq_true rfl]; rfl) ⟨⟨_, _, _, rfl⟩, s34.trans (s45.trans s56)⟩⟩
            · rw [if_neg cc]
              refine ⟨_, rfl, _, _, rfl, rfl, _, rfl, iteFe (decide_eq_false (by show ¬ (0 : Int) < (cntI rs m : Nat); omega)) ?_⟩
              exact ⟨rfl, _, rfl, iteFe rfl ⟨⟨_, _, _, rfl⟩, s34.trans (s45.trans s56)⟩⟩
          · exact iteFe (decide_eq_false c0) ⟨⟨_, _, _, rfl⟩, s34.trans s45⟩
      · rintro sg H4 ⟨h, s34⟩
        exact ⟨h, g6.trans s34⟩
    rintro _ H3 ⟨⟨v2, v4, v5, rfl⟩, s23⟩
    have s3 := s2.trans s23
    have er3 := s3 _ _ er
    refine ⟨_, rfl, _, rfl, ?_⟩
    intro x dx1 nx ndx nex
    refine ⟨x, dx1, lr, rs, H3, rfl, upd_same, same_new' (same_new ndx) (by rw [upd_ne (Ne.symm nex)]; exact nx), nx, er3, fun e he => (ar e he).same s3, ?_, fun H4 es4 pl4 ek4 s4 => ⟨rfl, ?_⟩⟩
    · have no : fwE rs = none := by
        rw [← ok_mc mc]
        exact (fwE_iff n1).mpr ⟨pl.ok.inc, fun e0 h0 e he => pl.ok.rl e he e0 (List.mem_of_getElem? h0)⟩
      exact fwE_ok (by omega) (by omega) (fun e he => by
        obtain ⟨i, hi⟩ := List.getElem?_of_mem he
        obtain ⟨a, ha⟩ : ∃ a, es[i]? = some a := ⟨_, List.getElem?_eq_getElem (by have := (List.getElem?_eq_some_iff.mp hi).1; omega)⟩
        have q := mc_at mc i
        rw [ha, hi] at q
        have q : a.m = e.m := congrArg (·.1) (Option.some.inj q)
        rw [← q]; exact pl.ok.mo a (List.mem_of_getElem? ha)) no
    · have plX := pl.same (s3.trans s4)
      obtain ⟨dx4, l4, e4, _⟩ := id pl4.ex
      refine ⟨p, dx, _, .ref PC, rfl, (s3.trans s4) _ _ ep, PE2.ty PT e4, PE2.oCC, ?_⟩
      unfold spPEqB
      refine ⟨p, .ref x, es, rfl, plX, .inl ⟨x, es4, rfl, pl4, fun H5 s5 => ⟨true, ?_, k H5 ((s3.trans s4).trans s5)⟩⟩⟩
      rw [eqEdB_same (mc.trans (k_mc ek4).symm)]
end
end K09
namespace K09
open PySem PySem.Spec PyProof.Rows L2 Jg
local macro_rules | `(tactic| walk_at "rd1") => `(tactic| (first
  | refine ⟨_, rfl, ?_⟩
  | refine ⟨_, _, rfl, rfl, ?_⟩
  | refine ⟨_, _, rfl, ?_⟩
  | refine ⟨rfl, ?_⟩
  | (refine ⟨show (0 : Int) < _ by omega, ?_⟩)
  | (refine ⟨Or.inl ⟨by omega, by omega⟩, ?_⟩)
  | (refine ⟨Or.inr ⟨by omega, by omega⟩, ?_⟩)
  | (refine ⟨(⟨by decide, by decide, by decide⟩ : CPow _ _), ?_⟩)
  | refine Or.inl ⟨_, rfl, ?_⟩
  | refine Or.inr ⟨_, rfl, ?_⟩
  | fail "rd"))
local macro_rules | `(tactic| walk_at "rd") => `(tactic| repeat' walk_at "rd1")
open K09C (hid hid_in hid_get hid_same hid_mut)
theorem hid_nil {H : Hp} : hid [] H = H := funext fun q => if_neg (by simp)
structure GvA (H0 : Hp) (σ : L2.St) (t : TA) (Ps : List (Hp → V → Prop)) : Prop where
  mo : ∀ P ∈ Ps, Mono P
  run : ∀ (M : List Addr) (H : Hp) (Q : List V → Hp → Prop), Same H0 (hid M H) → (∀ q ∈ M, H q ≠ none) → (∀ vs H', Same H H' → Paired (fun v P => P (hid M H') v) vs Ps → Q vs H') → t σ H Q
theorem par_mono {H H' : Hp} (s : Same H H') : ∀ {vs : List V} {Ps : List (Hp → V → Prop)}, (∀ P ∈ Ps, Mono P) → Paired (fun v P => P H v) vs Ps → Paired (fun v P => P H' v) vs Ps
  | _, _, _, .nil => .nil
  | _, _, m, .cons a r => .cons (m _ List.mem_cons_self _ _ _ s a) (par_mono s (fun P h => m P (List.mem_cons_of_mem _ h)) r)
theorem par_len {F : V → (Hp → V → Prop) → Prop} : ∀ {vs : List V} {Ps : List (Hp → V → Prop)}, Paired F vs Ps → vs.length = Ps.length
  | _, _, .nil => rfl
  | _, _, .cons _ r => by rw [List.length_cons, List.length_cons, par_len r]
theorem gva_nil {H0 : Hp} {σ : L2.St} : GvA H0 σ tNil [] := ⟨(fun _ h => nomatch h), fun M H Q s n q => q [] H (.refl _) .nil⟩
theorem gva_cons {H0 : Hp} {σ : L2.St} {te : TE} {t : TA} {P : Hp → V → Prop} {Ps : List (Hp → V → Prop)} (h : Gv H0 σ te P) (r : GvA H0 σ t Ps) : GvA H0 σ (tCons te t) (P :: Ps) :=
  ⟨fun R hR => (List.mem_cons.mp hR).elim (fun e => e ▸ h.mo) (r.mo R), fun M H Q s n q => h.run M H _ s n fun v H1 s1 p1 => r.run M H1 _ (s.trans (hid_keep s1)) (fun x hx z => by
    cases c : H x with
    | none => exact n x hx c
    | some o => rw [s1 _ _ c] at z; cases z) fun vs H2 s2 p2 => q (v :: vs) H2 (s1.trans s2) (.cons (h.mo _ _ _ (hid_keep s2) p1) p2)⟩
theorem gv_c {H0 : Hp} {σ : L2.St} {v : V} {P : Hp → V → Prop} (mo : Mono P) (h : ∀ H, Same H0 H → P H v) : Gv H0 σ (tC v) P := ⟨mo, fun M H Q s _ q => q v H (.refl _) (h _ s)⟩
theorem gv_seq {H0 : Hp} {σ : L2.St} {te : TE} {t : TA} {P : Hp → V → Prop} {Ps : List (Hp → V → Prop)} {o : List V → HO} (mo : Mono P) (h : GvA H0 σ t Ps)
    (ht : ∀ H Q, t σ H (fun xs H1 => xs.length ≤ sizeLine ∧ ∀ p, H1 p = none → Q (.ref p) (upd H1 p (o xs))) → te σ H Q) (few : Ps.length ≤ 1000) (k : ∀ H p vs, Same H0 H → H p = some (o vs) → Paired (fun v P => P H v) vs Ps → P H (.ref p)) : Gv H0 σ te P :=
  ⟨mo, fun M H Q s n q => ht H Q (h.run M H _ s n fun vs H1 s1 p1 => ⟨by rw [par_len p1, sizeLine_eq]; omega, fun p np => q _ _ (same_new' s1 np) (k _ _ vs (s.trans (hid_keep (same_new' s1 np))) (hid_in upd_same (fun z => n p z (s1.free np))) (par_mono (hid_keep (same_new np)) h.mo p1))⟩)⟩
theorem gv_lst {H0 : Hp} {σ : L2.St} {t : TA} {P : Hp → V → Prop} {Ps : List (Hp → V → Prop)} (mo : Mono P) (h : GvA H0 σ t Ps) (few : Ps.length ≤ 1000) (k : ∀ H p vs, Same H0 H → H p = some (.lst vs) → Paired (fun v P => P H v) vs Ps → P H (.ref p)) : Gv H0 σ (tLst t) P :=
  gv_seq (o := .lst) mo h (fun _ _ z => z) few k
theorem mono_eq {y : V} : Mono (fun _ v => v = y) := fun _ _ _ _ h => h
theorem gva_go {H0 : Hp} {σ : L2.St} {t : TA} {Ps : List (Hp → V → Prop)} {Q : List V → Hp → Prop} (g : GvA H0 σ t Ps) (k : ∀ vs H', Same H0 H' → Paired (fun v P => P H' v) vs Ps → Q vs H') : t σ H0 Q :=
  g.run [] H0 Q (by rw [hid_nil]; exact .refl _) (fun _ h => nomatch h) fun vs H' s p => k vs H' s (by rw [hid_nil] at p; exact p)
theorem par_rep {H : Hp} {P : Hp → V → Prop} : ∀ {n : Nat} {vs : List V}, Paired (fun v P => P H v) vs (List.replicate n P) → ∀ v ∈ vs, P H v
  | 0, _, .nil, _, h => nomatch h
  | n + 1, _, .cons a r, v, h => (List.mem_cons.mp h).elim (fun e => e ▸ a) (par_rep r v)
theorem gvl_go {H0 : Hp} {σ : L2.St} {t : TA} {Ps : List (Hp → V → Prop)} {Q : VK} (g : GvA H0 σ t Ps) (few : Ps.length ≤ 1000) (k : ∀ l vs H', H0 l = none → Same H0 H' → H' l = some (.lst vs) → Paired (fun v P => P H' v) vs Ps → Q (.ref l) H') : tLst t σ H0 Q :=
  gva_go g fun vs H1 s1 p => ⟨by rw [par_len p, sizeLine_eq]; omega, fun l nl => k l vs _ (s1.free nl) (same_new' s1 nl) upd_same (par_mono (same_new nl) g.mo p)⟩
def noT (H : Hp) : Hp := fun b => match H b with | some (.tbl _) => none | o => o
theorem noT_at {H : Hp} {p : Addr} {o : HO} (h : H p = some o) (n : ∀ ps, o ≠ .tbl ps) : noT H p = some o := by
  unfold noT
  rw [h]
  cases o with
  | tbl ps => exact absurd rfl (n ps)
  | _ => rfl
theorem noT_get {H : Hp} {p : Addr} {o : HO} (h : noT H p = some o) : H p = some o ∧ ∀ ps, o ≠ .tbl ps := by
  unfold noT at h
  cases e : H p with
  | none => rw [e] at h; cases h
  | some u =>
    rw [e] at h
    cases u with
    | tbl ps => cases h
    | _ => (cases h; exact ⟨rfl, fun ps z => nomatch z⟩)
theorem noT_same {H : Hp} : Same (noT H) H := fun b o e => (noT_get e).1
theorem noT_keep {H H' : Hp} (s : Same H H') : Same (noT H) (noT H') := fun b o e => noT_at (s _ _ (noT_get e).1) (noT_get e).2
def Mo (P : Hp → V → Prop) : Hp → V → Prop := fun H v => P (noT H) v
theorem mono_mo {P : Hp → V → Prop} (h : Mono P) : Mono (Mo P) := fun _ _ _ s q => h _ _ _ (noT_keep s) q
theorem okd {x : Str} (h : PyData.strOk x = true) : okW x := h
def PB (K : PySem.W.Frag) (hi : Int) : Hp → V → Prop := fun H y => K09F.BadR K H 0 hi y ∧ ShwF K H y
theorem badR_keep {K : PySem.W.Frag} {H H' : Hp} {lo hi : Int} {y : V} (h : K09F.BadR K H lo hi y) (s : Same H H') : K09F.BadR K H' lo hi y := h.elim .inl fun n => .inr (n.keep s)
theorem mono_b {K : PySem.W.Frag} {hi : Int} : Mono (PB K hi) := fun _ _ _ s h => ⟨badR_keep h.1 s, h.2.keep s⟩
theorem gv_run {H0 : Hp} {σ : L2.St} {te : TE} {v : V} {P : Hp → V → Prop} (mo : Mono P) (run : ∀ M H (Q : VK), Same H0 (hid M H) → Q v H → te σ H Q) (h : ∀ H, Same H0 H → P H v) : Gv H0 σ te P := ⟨mo, fun M H Q s _ q => run M H Q s (q v H (.refl _) (h _ s))⟩
section
variable {K : PySem.W.Frag} {H0 : Hp} {σ : L2.St}
theorem ni_ty {H : Hp} {y : V} {t : Value} {lo hi : Int} (ty : ∀ H', Same H H' → TyX K H' y t) (k : K09F.kit K t "int" false) : K09F.BadR K H lo hi y := .inr ⟨t, false, false, ty, k, (fun z => nomatch z), rfl⟩
theorem ni_bl {H : Hp} {b : Bool} {lo hi : Int} : K09F.BadR K H lo hi (.bl b) := .inr ⟨_, true, true, fun _ _ => .base (.bl b), kit_ty (by decide +kernel), fun _ => kit_ty (by decide +kernel), rfl⟩
theorem one_v {v : V} : GvA H0 σ (tCons (tC v) tNil) [fun _ x => x = v] := gva_cons (gv_c (mono_eq (y := v)) (fun _ _ => rfl)) gva_nil
theorem one_o {F : (V → (Hp → V → Prop) → Prop)} {vs : List V} {P : Hp → V → Prop} (h : Paired F vs [P]) : ∃ v, vs = [v] ∧ F v P := by
  cases h with | cons a r => cases r; exact ⟨_, rfl, a⟩
theorem bad_neg {H : Hp} {hi : Int} : PB K hi H (.int (-1)) := ⟨.inl ⟨-1, rfl, rfl⟩, _, okd (by decide +kernel), fun _ _ => .int (-1) (by decide +kernel)⟩
theorem bad_non {H : Hp} {hi : Int} : PB K hi H .non := ⟨ni_ty (fun _ _ => .base .non) (kit_ty (by decide +kernel)), _, okd (by decide +kernel), fun _ _ => .non⟩
theorem bad_tru {H : Hp} {hi : Int} : PB K hi H (.bl true) := ⟨ni_bl, _, okd (by decide +kernel), fun _ _ => .bl true⟩
theorem bad_0 {H : Hp} {hi : Int} : PB K hi H (.str "0") := ⟨ni_ty (fun _ _ => .base (.str _)) (kit_ty (by decide +kernel)), _, okd (by decide +kernel), fun _ _ => .str "0" (by decide +kernel)⟩
theorem gv_l0 {hi : Int} : Gv H0 σ (tLst (tCons (tC (.int 0)) tNil)) (Mo (PB K hi)) :=
  gv_lst (mono_mo (mono_b (K := K) (hi := hi))) one_v (by simp) fun H q vs s eq h => by
    obtain ⟨v, rfl, rfl⟩ := one_o h
    have eq := noT_at eq fun _ z => nomatch z
    exact ⟨ni_ty (fun H' s' => .base (.lst (s' _ _ eq))) (kit_ty (by decide +kernel)), _, okd (by decide +kernel), fun H' s' => .dat (.lst (SqL.of (s' _ _ eq)) (.cons (.int 0) .nil)) (by decide +kernel) (by decide +kernel) (by decide +kernel)⟩
theorem gv_neg {hi : Int} : Gv H0 σ (tUn (rU fun i => V.int (-i)) (tC (V.int 1))) (Mo (PB K hi)) :=
  gv_run (v := .int (-1)) (mono_mo (mono_b (K := K) (hi := hi))) (fun M H Q _ q => ⟨1, rfl, q⟩) fun H _ => bad_neg
end
/-- for x in [..]: the values by what holds of them -/
theorem for_gvl {K : PySem.W.Frag} {H0 : Hp} {σ : L2.St} {t : TA} {Ps : List (Hp → V → Prop)} {g : TG} {tb : TS} {D : Ends} (gv : GvA H0 σ t Ps) (few : Ps.length ≤ 1000)
    (k : ∀ l vs H1, Same H0 H1 → H1 l = some (.lst vs) → Paired (fun v P => P H1 v) vs Ps → ∃ Pv : Nat → L2.St → Hp → Prop, Pv 0 σ H1 ∧ (∀ i σ H, Pv i σ H → LamX.ExtN H1 H) ∧
      (∀ i x σ H, vs[i]? = some x → Pv i σ H → g x σ H fun σ2 H2 => tb { D with nx := Pv (i + 1), ct := Pv (i + 1), bk := D.nx } σ2 H2) ∧ ∀ σ H, Pv vs.length σ H → D.nx σ H) : tFor (iList K (tLst t)) g tb D σ H0 := by
  unfold tFor iList
  exact gvl_go gv few fun l vs H1 _ s1 el pv => ⟨l, rfl, ⟨_, SqL.of el⟩, by
    obtain ⟨Pv, h0, hx, hs, hd⟩ := k l vs H1 s1 el pv
    exact for_list (K := K) (a := l) (xs := vs) Pv h0 (fun i σ H _ h => SqL.of (hx i σ H h _ _ el (fun _ z => nomatch z))) hs hd⟩
theorem ask_neT {K : PySem.W.Frag} {H : Hp} {t : Str} {Q : VK} (ok : okW t) (q : Q (.bl false) H) : rNeD K (.str t) (.str t) H Q := by
  have sh : SeqAt.shaped (.str t) = true := by
    unfold okW at ok
    exact K09F.shaped_str ok
  refine ⟨.str t, .str t, .str _, .str _, sh, sh, ?_⟩
  rw [eqv_str, decide_eq_true rfl]; exact q
@[irreducible] def spCrf (PC C : Addr) : Sp := fun vs H Q _ => ∃ (p : Addr) (es : List Ed), vs = [.ref p] ∧ PlAt PC C H p es ∧ ∀ H', Same H H' → Q (.bl true) H'
section
variable {K : PySem.W.Frag} {H0 : Hp} {σ : L2.St}
theorem valsCr : GvA H0 σ (tCons (tC V.non) (tCons (tC (V.bl true)) (tCons (tUn (rU fun i => V.int (-i)) (tC (V.int 1))) (tCons (tC (V.str "0")) (tCons (tOp (rI0 fun i j => V.int (i + j)) (tOp (rI CPow fun i j => V.int (i ^ j.toNat)) (tC (V.int 10)) (tC (V.int 40))) (tC (V.int 1))) (tCons (tLst (tCons (tC (V.int 0)) tNil)) tNil)))))) (List.replicate 6 (Mo (PB K LM))) := by
  have m := mono_mo (mono_b (K := K) (hi := LM))
  refine gva_cons (gv_c m fun _ _ => bad_non) (gva_cons (gv_c m fun _ _ => bad_tru) (gva_cons gv_neg (gva_cons (gv_c m fun _ _ => bad_0) (gva_cons (gv_run (v := .int (10 ^ 40 + 1)) m (fun M H Q _ q => ⟨_, _, rfl, rfl, ⟨by decide, by decide, by decide⟩, _, _, rfl, rfl, ?_⟩) fun H _ => ⟨.inl ⟨_, rfl, by decide +kernel⟩, _, okd (by decide +kernel), fun _ _ => .int (10 ^ 40 + 1) (by decide +kernel)⟩) (gva_cons gv_l0 gva_nil)))))
  have p40 : (10 : Int) ^ (40 : Int).toNat = 10 ^ 40 := by decide +kernel
  show Q (V.int (10 ^ (40 : Int).toNat + 1)) H
  rw [p40]; exact q
end
section
variable {P : Program} {w : World} {K : PySem.W.Frag} {mg : Str → Option Value} {base : Heap} {C PC CM CG : Addr} {st1 : Stmt}
theorem sc_law_current_refused : FnScope ["plan", "odd", "kept", "e"] ["plan"] (defScope s_law_current_refused) := ⟨rfl, rfl, rfl, by decide +kernel, rfl, by decide +kernel, by decide +kernel⟩
theorem ok_crf (D : DefK K mg "_law_current_refused" s_law_current_refused) (T : TxP K mg) (PT : PTx K mg PC) (M9 : K09F.ExnQ K mg "InvalidMoment" CM "InvalidMoment.__init__" st1 "value") (W9 : TstG K mg CM CG) (M_cur : Met P w K mg base (L2.CX P w) 4 PC "current" (spCur K PC C CM)) : CalG P w K mg base CX0 6 "_law_current_refused" (spCrf PC C) := by
  refine D.calG sc_law_current_refused (fun _ _ _ _ _ _ us hl => match us, hl with | [_], _ => rfl) (fun vs H Q E h => ?_) fun f0 cdv A outer s H vs Q E g hr h => ?_
  · unfold spCrf at h; obtain ⟨p, es, rfl, _⟩ := h; rfl
  · unfold spCrf at h; obtain ⟨p, es, rfl, pl, k⟩ := h
    have hu : (A.deeper (envOfC "_law_current_refused" (defScope s_law_current_refused) s.heap.objs.size f0 cdv)).units + 64 < cLine := hr.units
    have hrep : ∀ (a : Addr) (oe : Obj) (pn : List (Addr × Obj)), CallR ((cxOf CX0 P w K mg base ["plan", "odd", "kept", "e"] "_law_current_refused" (defScope s_law_current_refused) f0 cdv A outer s H E).nox.suite a ((a, oe) :: pn)) (.builtin "repr") (rShw K) := fun a oe pn => call_shw g hu
    refine ⟨_, (C8.pss_cut (ps_for PassesOwn.never rfl (pi_list (pe_lst (pa_cons pe_non (pa_cons pe_bl (pa_cons (pe_un un_neg pe_int) (pa_cons pe_str (pa_cons (pe_op op_add (pe_op op_pow pe_int pe_int) pe_int) (pa_cons (pe_lst (pa_cons pe_int pa_nil)) pa_nil)))))))) (pg_name (i := 1) sc_law_current_refused.nd rfl (Or.inl rfl)) (pss_cons (ps_set (i := 2) sc_law_current_refused.nd rfl (Or.inl rfl) pe_non)
      (pss_cons (ps_tryT (.named (i := 3) rfl rfl ⟨rfl, by decide, .inl M9.mg_⟩ (fun a oe cls d pn hz hf => pss_one (ps_set (i := 2) sc_law_current_refused.nd rfl (Or.inl rfl) (pe_ifExp (pt_val (pe_callB (call_isX M9.xk hz hf) (by rfl) T.b_isinstance (by decide +kernel) (pa_cons (pv 3) (pa_cons (pe_glob (v := .ref CG) rfl W9.gG rfl) pa_nil)))) (pe_callB (hrep a oe pn) (by rfl) T.b_repr (by decide +kernel) (pa_cons (pe_xf M9.xk.xf M9.no hz hf (pv 3)) pa_nil)) pe_non))) .cut) rfl rfl sc_law_current_refused.nd takes0 (fun W pn xe tk _ => pss_one (ps_expr (pe_mS M_cur PT.cl tk hr (by decide) (pv 0) (pa_cons (pv 1) pa_nil)))))
      (pss_one (ps_if (pt_cmpR (op_neD hu) (pv 2) (pe_callB (call_shw g hu) (by rfl) T.b_repr (by decide +kernel) (pa_cons (pv 1) pa_nil)) (nomark _)) (pss_one (ps_ret pe_bl)) pss_nil)))))
      (pss_one (ps_ret pe_bl))), ?_⟩
    obtain ⟨dx, l9, ep, _⟩ := id pl.ex
    refine ⟨fun σ' H' => (∃ v1 v2 v3, σ' = [some (.ref p), v1, v2, v3]) ∧ Same H H', ?_, ?_⟩
    · refine for_gvl (H0 := H) (σ := [some (.ref p), none, none, none]) (valsCr (K := K)) (by simp) fun l vs H1 s1 el pv => ⟨fun i sg' H' => (∃ v1 v2 v3, sg' = [some (.ref p), v1, v2, v3]) ∧ Same H1 H', ⟨⟨_, _, _, rfl⟩, .refl _⟩, (fun i sg' H' ⟨_, e⟩ => LamX.ExtN.of e), ?_, ?_⟩
      · rintro i y sg' H' hy ⟨⟨v1, v2, v3, rfl⟩, s'⟩
        have p1 : PB K LM (noT H1) y := par_rep pv y (List.mem_of_getElem? hy)
        obtain ⟨tx, oktx, shN⟩ := p1.2
        have bad := badR_keep p1.1 (noT_same.trans s')
        have sH := s1.trans s'
        refine ⟨_, rfl, p, dx, _, rfl, sH _ _ ep, get_eno _ (by decide +kernel), _, rfl, ?_⟩
        unfold spCur
        refine ⟨p, y, es, rfl, pl.same sH, .inr ⟨bad, fun d' H2 nd s2 ed => ⟨true, M9.te, fun _ a na => ?_, fun z => nomatch z⟩⟩⟩
        refine ⟨_, rfl, .ref CG, .ref CG, true, d', _, rfl, rfl, rfl, ed, (fun _ z => z), W9.kMG, true, rfl, iteTe rfl ?_⟩
        refine ⟨_, rfl, rfl, rfl, d', _, _, rfl, ed, rfl, _, tx, rfl, shN _ (noT_same.trans (s'.trans s2)), ?_⟩
        refine ⟨_, rfl, _, rfl, y, tx, rfl, shN _ (noT_same.trans (s'.trans s2)), ask_neT oktx ⟨_, rfl, iteFe rfl ⟨⟨_, _, _, rfl⟩, s'.trans s2⟩⟩⟩
      · rintro sg' H' ⟨h, s'⟩
        exact ⟨h, s1.trans s'⟩
    rintro _ H1 ⟨⟨v1, v2, v3, rfl⟩, s1⟩
    exact k H1 s1
end
end K09
namespace K09
open PySem PySem.Spec PyProof.Rows L2 Jg
local macro_rules | `(tactic| walk_at "rd1") => `(tactic| (first
  | refine ⟨_, rfl, ?_⟩
  | refine ⟨_, _, rfl, rfl, ?_⟩
  | refine ⟨_, _, rfl, ?_⟩
  | refine ⟨rfl, ?_⟩
  | (refine ⟨show (0 : Int) < _ by omega, ?_⟩)
  | (refine ⟨Or.inl ⟨by omega, by omega⟩, ?_⟩)
  | (refine ⟨Or.inr ⟨by omega, by omega⟩, ?_⟩)
  | (refine ⟨(⟨by decide, by decide, by decide⟩ : CPow _ _), ?_⟩)
  | refine Or.inl ⟨_, rfl, ?_⟩
  | refine Or.inr ⟨_, rfl, ?_⟩
  | fail "rd"))
local macro_rules | `(tactic| walk_at "rd") => `(tactic| repeat' walk_at "rd1")
open K09C (Ct CAt CtOk)
theorem k_len {es rs : List Ed} (h : es.map Ed.k = rs.map Ed.k) : es.length = rs.length := mc_len (k_mc h)
/-- a plan's editions and its rows come to the same -/
theorem due_k {es rs : List Ed} (h : es.map Ed.k = rs.map Ed.k) (d : Deed) : (∀ a i, dueE rs d = .inr (a, i) → dueE es d = .inr (a, i)) ∧ ∀ rs', dueE rs d = .inl rs' → ∃ es', dueE es d = .inl es' ∧ es'.map Ed.k = rs'.map Ed.k := by
  have l := k_len h
  cases d with
  | add e =>
    have f : fwE (es ++ [e]) = fwE (rs ++ [e]) := fwE_mc (by rw [List.map_append, List.map_append, k_mc h])
    have u : ∀ xs : List Ed, dueE xs (.add e) = if xs.length = 7 then .inr ("limit", 7) else if fwE (xs ++ [e]) = none then .inl (xs ++ [e]) else .inr ("plan", xs.length) := fun xs => rfl
    rw [u, u, f, l]
    by_cases c : rs.length = 7
    · rw [if_pos c, if_pos c]; exact ⟨fun a i q => q, fun rs' q => by cases q⟩
    rw [if_neg c, if_neg c]
    by_cases g : fwE (rs ++ [e]) = none
    · rw [if_pos g, if_pos g]
      refine ⟨(fun a i q => by cases q), fun rs' q => ?_⟩
      cases q
      exact ⟨es ++ [e], rfl, by rw [List.map_append, List.map_append, h]⟩
    · rw [if_neg g, if_neg g]; exact ⟨fun a i q => q, fun rs' q => by cases q⟩
  | drop =>
    have u : ∀ xs : List Ed, dueE xs .drop = if 1 < xs.length then .inl xs.dropLast else .inr ("edition", 0) := fun xs => rfl
    rw [u, u, l]
    by_cases c : 1 < rs.length
    · rw [if_pos c, if_pos c]
      refine ⟨(fun a i q => by cases q), fun rs' q => ?_⟩
      cases q
      exact ⟨es.dropLast, rfl, by rw [List.map_dropLast, List.map_dropLast, h]⟩
    · rw [if_neg c, if_neg c]; exact ⟨fun a i q => q, fun rs' q => by cases q⟩
  | set n e =>
    have f : fwE (es.set n e) = fwE (rs.set n e) := fwE_mc (by rw [List.map_set, List.map_set, k_mc h])
    have u : ∀ xs : List Ed, dueE xs (.set n e) = if n = xs.length then .inr ("edition", n) else if fwE (xs.set n e) = none then .inl (xs.set n e) else .inr ("plan", n) := fun xs => rfl
    rw [u, u, f, l]
    by_cases c : n = rs.length
    · rw [if_pos c, if_pos c]; exact ⟨fun a i q => q, fun rs' q => by cases q⟩
    rw [if_neg c, if_neg c]
    by_cases g : fwE (rs.set n e) = none
    · rw [if_pos g, if_pos g]
      refine ⟨(fun a i q => by cases q), fun rs' q => ?_⟩
      cases q
      exact ⟨es.set n e, rfl, by rw [List.map_set, List.map_set, h]⟩
    · rw [if_neg g, if_neg g]; exact ⟨fun a i q => q, fun rs' q => by cases q⟩
/-- the edition of a deed -/
def Deed.ed : Deed → List Ed
  | .add e => [e]
  | .drop => []
  | .set _ e => [e]
/-- what stands after a step stood before, or is the deed's -/
theorem due_mem {rs rs' : List Ed} {d : Deed} (h : dueE rs d = .inl rs') : ∀ a ∈ rs', a ∈ rs ∨ a ∈ d.ed := fun a ha => by
  cases d with
  | add e =>
    have h : (if rs.length = 7 then .inr ("limit", 7) else if fwE (rs ++ [e]) = none then .inl (rs ++ [e]) else .inr ("plan", rs.length) : List Ed ⊕ (Str × Int)) = .inl rs' := h
    by_cases c : rs.length = 7
    · rw [if_pos c] at h; cases h
    rw [if_neg c] at h
    by_cases g : fwE (rs ++ [e]) = none
    · rw [if_pos g] at h; cases h; exact List.mem_append.mp ha
    · rw [if_neg g] at h; cases h
  | drop =>
    have h : (if 1 < rs.length then .inl rs.dropLast else .inr ("edition", 0) : List Ed ⊕ (Str × Int)) = .inl rs' := h
    by_cases c : 1 < rs.length
    · rw [if_pos c] at h; cases h; exact .inl ((List.dropLast_sublist rs).mem ha)
    · rw [if_neg c] at h; cases h
  | set n e =>
    have h : (if n = rs.length then .inr ("edition", n) else if fwE (rs.set n e) = none then .inl (rs.set n e) else .inr ("plan", n) : List Ed ⊕ (Str × Int)) = .inl rs' := h
    by_cases c : n = rs.length
    · rw [if_pos c] at h; cases h
    rw [if_neg c] at h
    by_cases g : fwE (rs.set n e) = none
    · rw [if_pos g] at h; cases h
      rcases List.mem_or_eq_of_mem_set ha with q | q
      · exact .inl q
      · exact .inr (by rw [q]; exact List.mem_singleton.mpr rfl)
    · rw [if_neg g] at h; cases h
/-- after a step there are one to seven rows -/
theorem due_len {rs rs' : List Ed} {d : Deed} (n1 : 1 ≤ rs.length) (n7 : rs.length ≤ 7) (h : dueE rs d = .inl rs') : 1 ≤ rs'.length ∧ rs'.length ≤ 7 := by
  cases d with
  | add e =>
    have h : (if rs.length = 7 then .inr ("limit", 7) else if fwE (rs ++ [e]) = none then .inl (rs ++ [e]) else .inr ("plan", rs.length) : List Ed ⊕ (Str × Int)) = .inl rs' := h
    by_cases c : rs.length = 7
    · rw [if_pos c] at h; cases h
    rw [if_neg c] at h
    by_cases g : fwE (rs ++ [e]) = none
    · rw [if_pos g] at h; cases h
      rw [List.length_append]
      show 1 ≤ rs.length + 1 ∧ rs.length + 1 ≤ 7
      omega
    · rw [if_neg g] at h; cases h
  | drop =>
    have h : (if 1 < rs.length then .inl rs.dropLast else .inr ("edition", 0) : List Ed ⊕ (Str × Int)) = .inl rs' := h
    by_cases c : 1 < rs.length
    · rw [if_pos c] at h; cases h
      rw [List.length_dropLast]; omega
    · rw [if_neg c] at h; cases h
  | set n e =>
    have h : (if n = rs.length then .inr ("edition", n) else if fwE (rs.set n e) = none then .inl (rs.set n e) else .inr ("plan", n) : List Ed ⊕ (Str × Int)) = .inl rs' := h
    by_cases c : n = rs.length
    · rw [if_pos c] at h; cases h
    rw [if_neg c] at h
    by_cases g : fwE (rs.set n e) = none
    · rw [if_pos g] at h; cases h
      rw [List.length_set]; exact ⟨n1, n7⟩
    · rw [if_neg g] at h; cases h
end K09
namespace K09
open PySem PySem.Spec PyProof.Rows L2 Jg
local macro_rules | `(tactic| walk_at "rd1") => `(tactic| (first
  | refine ⟨_, rfl, ?_⟩
  | refine ⟨_, _, rfl, rfl, ?_⟩
  | refine ⟨_, _, rfl, ?_⟩
  | refine ⟨rfl, ?_⟩
  | (refine ⟨show (0 : Int) < _ by omega, ?_⟩)
  | (refine ⟨Or.inl ⟨by omega, by omega⟩, ?_⟩)
  | (refine ⟨Or.inr ⟨by omega, by omega⟩, ?_⟩)
  | (refine ⟨(⟨by decide, by decide, by decide⟩ : CPow _ _), ?_⟩)
  | refine Or.inl ⟨_, rfl, ?_⟩
  | refine Or.inr ⟨_, rfl, ?_⟩
  | fail "rd"))
local macro_rules | `(tactic| walk_at "rd") => `(tactic| repeat' walk_at "rd1")
open K09C (Use Td TdAt TdsAt TdG TdR Ww Wn Gn CtIs Ct CAt CtOk Wd StA SameB spDr spCh spTolds hid hid_in hid_get hid_same)
theorem use_tolds {K : PySem.W.Frag} {p l1 l2 l3 : Addr} {n : Nat} {parts keys hands : List Str} {H : Hp} {Q : VK} {E : XK} (g : Gn p l1 l2 l3 parts keys hands H) (w : Wn parts keys hands) (h1 : 1 ≤ n) (h2 : n ≤ 100)
    (k : ∀ (f : Addr) (qs : List Addr) (ds : List Td) (H' : Hp), H f = none → f ≠ p → qs.length = n → H' f = some (.lst (qs.map V.ref)) → TdsAt parts keys hands H' qs ds → StA H' p → SameB p H H' → Q (.ref f) H') : spTolds K [.ref p, .int n, .ref l1, .ref l2, .ref l3] H Q E := by
  unfold spTolds
  exact ⟨p, l1, l2, l3, n, parts, keys, hands, rfl, g, w, h1, h2, k⟩
theorem hid2 {M : List Addr} {p : Addr} {H H' : Hp} (s : SameB p H H') (m : p ∈ M) : Same (hid M H) (hid M H') := fun q o e => by
  obtain ⟨e1, e2⟩ := hid_get e
  exact hid_in (s _ _ e1 fun z => e2 (z ▸ m)) e2
theorem hid_upd {M : List Addr} {f : Addr} {H : Hp} {o : HO} (m : f ∈ M) : hid M (upd H f o) = hid M H := funext fun q => by
  unfold hid
  by_cases c : q ∈ M
  · rw [if_pos c, if_pos c]
  · rw [if_neg c, if_neg c, upd_ne (fun e => c (by rw [e]; exact m))]
theorem hid_less {M N : List Addr} {H : Hp} (h : ∀ q ∈ N, q ∈ M) : Same (hid M H) (hid N H) := fun q o e => hid_in (hid_get e).1 fun z => (hid_get e).2 (h q z)
/-- nothing of contents, and no edition -/
def OddO (o : HO) : Prop := (∃ a b, o = .lst [.int a, .int b]) ∨ (∃ x xs, o = .lst (.ref x :: xs)) ∨ ∃ c dx l, o = .ins c dx [(("_editions" : Str), .ref l)]
theorem odd_tup {xs : List V} : ¬ OddO (.tup xs) := fun h => by
  rcases h with ⟨_, _, z⟩ | ⟨_, _, z⟩ | ⟨_, _, _, z⟩ <;> cases z
theorem odd_dict {d : List (Key × V)} : ¬ OddO (.dK d) := fun h => by
  rcases h with ⟨_, _, z⟩ | ⟨_, _, z⟩ | ⟨_, _, _, z⟩ <;> cases z
theorem odd_strs {ks : List Str} : ¬ OddO (.lst (ks.map V.str)) := fun h => by
  rcases h with ⟨_, _, z⟩ | ⟨_, _, z⟩ | ⟨_, _, _, z⟩
  · cases ks with
    | nil => cases z
    | cons a b => have := HO.lst.inj z; cases (List.cons.inj this).1
  · cases ks with
    | nil => cases z
    | cons a b => have := HO.lst.inj z; cases (List.cons.inj this).1
  · cases z
theorem cat_odd {S : Addr → Prop} {C x : Addr} {H : Hp} {c : Ct} {M : List Addr} (h : CAt S C H x c) (n : ∀ q ∈ M, ∀ o, H q = some o → OddO o) : CAt (fun _ => True) C (hid M H) x c := by
  have m : ∀ {q : Addr} {o : HO}, H q = some o → ¬ OddO o → hid M H q = some o := fun e z => hid_in e fun w => z (n _ w _ e)
  obtain ⟨⟨dx, d, v, s, e1, e2, e3, e4, _⟩, us⟩ := h
  refine ⟨⟨dx, d, v, s, m e1 (fun z => ?_), m e2 odd_dict, m e3 odd_strs, m e4 odd_strs, trivial, trivial, trivial, trivial⟩, fun r hr => ⟨m (us r hr).tp odd_tup, m (us r hr).ls odd_strs, trivial, trivial⟩⟩
  rcases z with ⟨_, _, z⟩ | ⟨_, _, z⟩ | ⟨_, _, _, z⟩
  · cases z
  · cases z
  · have f := congrArg List.length (HO.ins.inj z).2.2
    have : (4 : Nat) = 1 := f
    omega
theorem ed_odd {C : Addr} {H : Hp} {e : Ed} {M : List Addr} (h : EdAt C H e) (n : ∀ q ∈ M, ∀ o, H q = some o → OddO o) : EdAt C (hid M H) e :=
  ⟨hid_in h.tp fun w => odd_tup (n _ w _ h.tp), cat_odd h.ct n, h.ok⟩
theorem odd_st {H : Hp} {p : Addr} (st : StA H p) {o : HO} (e : H p = some o) : OddO o := by
  obtain ⟨a, b, e1, _⟩ := st
  rw [e1] at e
  exact .inl ⟨a, b, (Option.some.inj e).symm⟩
theorem odd_pl {PC C p : Addr} {es : List Ed} {H : Hp} (h : PlAt PC C H p es) {o : HO} (e : H p = some o) : OddO o := by
  obtain ⟨dx, l, e1, _⟩ := h.ex
  rw [e1] at e
  exact .inr (.inr ⟨PC, dx, l, (Option.some.inj e).symm⟩)
theorem odd2 {PC C p pl : Addr} {es : List Ed} {H : Hp} (st : StA H p) (h : PlAt PC C H pl es) : ∀ q ∈ [p, pl], ∀ o, H q = some o → OddO o := fun q hq o e => by
  rcases List.mem_cons.mp hq with rfl | hq
  · exact odd_st st e
  · rw [List.mem_singleton.mp hq] at e; exact odd_pl h e
/-- a plan's own parts stand beside the stream and beside other plans -/
theorem plat_off {PC C x : Addr} {H : Hp} {es : List Ed} {M : List Addr} (h : PlAt PC C H x es) (nx : x ∉ M) (n : ∀ q ∈ M, ∀ o, H q = some o → (∃ a b, o = .lst [.int a, .int b]) ∨ ∃ c dx l, o = .ins c dx [(("_editions" : Str), .ref l)]) : PlAt PC C (hid M H) x es := by
  have nO : ∀ q ∈ M, ∀ o, H q = some o → OddO o := fun q hq o e => (n q hq o e).elim .inl fun z => .inr (.inr z)
  obtain ⟨⟨dx, l, e1, e2⟩, eds, ok⟩ := h
  refine ⟨⟨dx, l, hid_in e1 nx, hid_in e2 fun w => ?_⟩, fun e he => ed_odd (eds e he) nO, ok⟩
  rcases n _ w _ e2 with ⟨a, b, z⟩ | ⟨_, _, _, z⟩
  · exact frefs9 (f := Ed.t) a b z
  · cases z
theorem plx_sb {PC C p pl : Addr} {H H' : Hp} {es : List Ed} (h : PlX PC C H pl es) (st : StA H p) (s : SameB p H H') (n : pl ≠ p) : PlX PC C H' pl es :=
  (((plat_off h.pl (M := [p]) (fun z => n (List.mem_singleton.mp z)) fun q hq o e => by
    rw [List.mem_singleton.mp hq] at e
    obtain ⟨a, b, e1, _⟩ := st
    rw [e1] at e
    exact .inl ⟨a, b, (Option.some.inj e).symm⟩).same (hid2 s (List.mem_singleton.mpr rfl))).same hid_same).x
theorem sb2 {p pl : Addr} {H H' : Hp} (s : SameB p H H') : Same (hid [p, pl] H) (hid [p, pl] H') := hid2 s List.mem_cons_self
theorem sp2 {p pl : Addr} {H H' : Hp} (s : SameP pl H H') : Same (hid [p, pl] H) (hid [p, pl] H') := hid2 s (List.mem_cons_of_mem _ (List.mem_singleton.mpr rfl))
theorem sta_sp {p pl : Addr} {H H' : Hp} (h : StA H p) (s : SameP pl H H') (n : pl ≠ p) : StA H' p :=
  let ⟨a, b, e, k⟩ := h
  ⟨a, b, s _ _ e n.symm, k⟩
/-- the rows, and the plan that has them -/
structure Lr (PC C p pl lr : Addr) (rs es : List Ed) (hi : Int) (H : Hp) : Prop where
  er : hid [p, pl] H lr = some (.lst (rs.map Ed.v))
  ar : ∀ e ∈ rs, EdAt C (hid [p, pl] H) e
  bd : ∀ e ∈ rs, 0 ≤ e.m ∧ e.m ≤ hi
  n1 : 1 ≤ rs.length
  n7 : rs.length ≤ 7
  pl : PlX PC C H pl es
  ek : es.map Ed.k = rs.map Ed.k
theorem Lr.sb {PC C p pl lr : Addr} {rs es : List Ed} {hi : Int} {H H' : Hp} (h : Lr PC C p pl lr rs es hi H) (st : StA H p) (s : SameB p H H') (n : pl ≠ p) : Lr PC C p pl lr rs es hi H' :=
  ⟨sb2 s _ _ h.er, fun e he => (h.ar e he).same (sb2 s), h.bd, h.n1, h.n7, plx_sb h.pl st s n, h.ek⟩
theorem Lr.up {PC C p pl lr : Addr} {rs es : List Ed} {hi hi' : Int} {H : Hp} (h : Lr PC C p pl lr rs es hi H) (le : hi ≤ hi') : Lr PC C p pl lr rs es hi' H :=
  ⟨h.er, h.ar, fun e he => ⟨(h.bd e he).1, Int.le_trans (h.bd e he).2 le⟩, h.n1, h.n7, h.pl, h.ek⟩
theorem DeedAt.odd {C : Addr} {H : Hp} {rs : List Ed} {hi : Int} {d : Deed} {M : List Addr} (h : DeedAt C H rs hi d) (n : ∀ q ∈ M, ∀ o, H q = some o → OddO o) : DeedAt C (hid M H) rs hi d := by
  cases d with
  | add e => exact ⟨ed_odd h.1 n, h.2⟩
  | drop => trivial
  | set k e => exact ⟨ed_odd h.1 n, h.2⟩
theorem DeedAt.ed {C : Addr} {H : Hp} {rs : List Ed} {hi : Int} {d : Deed} (h : DeedAt C H rs hi d) : ∀ e ∈ d.ed, EdAt C H e ∧ 0 ≤ e.m ∧ e.m ≤ hi := fun e he => by
  cases d with
  | add a => rw [List.mem_singleton.mp he]; exact h
  | drop => cases he
  | set n a => rw [List.mem_singleton.mp he]; exact ⟨h.1, h.2.1, h.2.2.1⟩
theorem ed_new {rs' : List Ed} (n1 : 1 ≤ rs'.length) : ∃ a r, rs' = a :: r := by
  cases rs' with
  | nil => exact absurd n1 (by decide)
  | cons a r => exact ⟨a, r, rfl⟩
/-- a plan goes on beside another one -/
theorem plat_sp {PC C x y : Addr} {H H' : Hp} {es ey : List Ed} (h : PlAt PC C H x es) (hy : PlAt PC C H y ey) (n : x ≠ y) (s : SameP y H H') : PlAt PC C H' x es :=
  ((plat_off h (M := [y]) (fun z => n (List.mem_singleton.mp z)) fun q hq o e => by
    rw [List.mem_singleton.mp hq] at e
    obtain ⟨dx, l, e1, _⟩ := hy.ex
    rw [e1] at e
    exact .inr ⟨PC, dx, l, (Option.some.inj e).symm⟩).same (hid2 (M := [y]) s (List.mem_singleton.mpr rfl))).same hid_same
/-- two lists of a word and a number are the same -/
theorem ask_num {K : PySem.W.Frag} {H : Hp} {l m : Addr} {a : Str} {y : V} {Q : VK} (oa : okW a) (hy : (∃ i, y = .int i) ∨ y = .non) (h1 : H l = some (.lst [.str a, y])) (h2 : H m = some (.lst [.str a, y])) (q : Q (.bl false) H) : rNeD K (.ref l) (.ref m) H Q := by
  unfold okW at oa
  rcases hy with ⟨i, rfl⟩ | rfl
  · have sh : SeqAt.shaped (.list [.str a, .int i]) = true := by
      have e1 : (PyData.list [.str a, .int i]).canLay0 = true := by simp [PyData.canLay0, PyData.canLayAll0, oa]
      have e2 : (PyData.list [.str a, .int i]).depth ≤ 64 := by first | (simp [PyData.depth, PyData.depthAll]; done) | (show PyData.depthAll _ + 1 ≤ 64; simp [PyData.depthAll, PyData.depth]; done) | decide
      exact Bool.and_eq_true_iff.mpr ⟨e1, decide_eq_true e2⟩
    exact ⟨.list [.str a, .int i], .list [.str a, .int i], .lst (SqL.of h1) (.cons (.str _) (.cons (.int i) .nil)), .lst (SqL.of h2) (.cons (.str _) (.cons (.int i) .nil)), sh, sh, by rw [show PyData.eqv (.list [.str a, .int i]) (.list [.str a, .int i]) = true by simp [PyData.eqv, PyData.eqvAll]]; exact q⟩
  · have sh : SeqAt.shaped (.list [.str a, .none]) = true := by
      have e1 : (PyData.list [.str a, .none]).canLay0 = true := by simp [PyData.canLay0, PyData.canLayAll0, oa]
      have e2 : (PyData.list [.str a, .none]).depth ≤ 64 := by first | (simp [PyData.depth, PyData.depthAll]; done) | (show PyData.depthAll _ + 1 ≤ 64; simp [PyData.depthAll, PyData.depth]; done) | decide
      exact Bool.and_eq_true_iff.mpr ⟨e1, decide_eq_true e2⟩
    exact ⟨.list [.str a, .none], .list [.str a, .none], .lst (SqL.of h1) (.cons (.str _) (.cons .non .nil)), .lst (SqL.of h2) (.cons (.str _) (.cons .non .nil)), sh, sh, by rw [show PyData.eqv (.list [.str a, .none]) (.list [.str a, .none]) = true by simp [PyData.eqv, PyData.eqvAll]]; exact q⟩
theorem cat_new {S : Addr → Prop} {C x : Addr} {H : Hp} {c : Ct} {M : List Addr} (h : CAt S C H x c) (n : ∀ q, S q → q ∉ M) : CAt (fun _ => True) C (hid M H) x c :=
  (h.keep (H' := hid M H) fun q o e s => hid_in e (n q s)).wider fun _ _ => trivial
theorem refA_at {α : Type} {g : α → Addr} {xs : List α} {i : Nat} {v : V} (h : (xs.map fun q => V.ref (g q))[i]? = some v) : ∃ q, xs[i]? = some q ∧ v = .ref (g q) := by
  rw [List.getElem?_map] at h
  cases c : xs[i]? with
  | none => rw [c] at h; cases h
  | some q => rw [c] at h; exact ⟨q, rfl, (Option.some.inj h).symm⟩
theorem int_at {ms : List Int} {i : Nat} {v : V} (h : (ms.map V.int)[i]? = some v) : ∃ m, ms[i]? = some m ∧ v = .int m := by
  rw [List.getElem?_map] at h
  cases c : ms[i]? with
  | none => rw [c] at h; cases h
  | some q => rw [c] at h; exact ⟨q, rfl, (Option.some.inj h).symm⟩
theorem use_mom9 {p : Addr} {i st : Int} {H : Hp} {Q : VK} {E : XK} (sA : StA H p) (i1 : 1 ≤ i) (i7 : i ≤ 7) (st0 : 0 < st) (st1 : st ≤ 10 ^ 38)
    (k : ∀ (l : Addr) (ms : List Int) (H' : Hp), H l = none → l ≠ p → ms.length = i.toNat → MsJ ms → H' l = some (.lst (ms.map V.int)) → StA H' p → SameB p H H' → Q (.ref l) H') : spMom9 [.ref p, .int i, .int st] H Q E := by
  unfold spMom9
  exact ⟨p, i.toNat, st, by rw [show ((i.toNat : Nat) : Int) = i by omega], sA, by omega, by omega, st0, st1, k⟩
theorem use_cut {PC C p : Addr} {es : List Ed} {i : Int} {n : Nat} {H : Hp} {Q : VK} {E : XK} (hi : i = (n : Nat)) (pl : PlAt PC C H p es) (hn : n < es.length)
    (k : ∀ (x : Addr) (es' : List Ed) (H' : Hp), H x = none → Same H H' → PlAt PC C H' x es' → es'.map Ed.k = (es.take (n + 1)).map Ed.k → Q (.ref x) H') : spCut PC C [.ref p, .int i] H Q E := by
  unfold spCut
  subst hi
  exact ⟨p, es, n, rfl, pl, hn, k⟩
theorem use_twin {PC C p : Addr} {es : List Ed} {H : Hp} {Q : VK} {E : XK} (pl : PlAt PC C H p es)
    (k : ∀ (x : Addr) (es' : List Ed) (H' : Hp), H x = none → Same H H' → PlAt PC C H' x es' → es'.map Ed.k = es.map Ed.k → Q (.ref x) H') : spTwin PC C [.ref p] H Q E := by
  unfold spTwin
  exact ⟨p, es, rfl, pl, k⟩
theorem mj_ok {ms : List Int} {rs : List Ed} {zs : List Str} (mj : MsJ ms) (m7 : ms.length ≤ 7) (n1 : 1 ≤ rs.length) (l : rs.length ≤ ms.length) (h : ∀ (i : Nat) (e : Ed), rs[i]? = some e → ms[i]? = some e.m) (z : ∀ e ∈ rs, e.c.us.map (·.z) = zs) : EdsOk rs ∧ ∀ e ∈ rs, 0 ≤ e.m ∧ e.m ≤ 5 + 6 * (10 ^ 38 + 1) := by
  have b : ∀ e ∈ rs, 0 ≤ e.m ∧ e.m ≤ 5 + 6 * (10 ^ 38 + 1) := fun e he => by
    obtain ⟨i, hi⟩ := List.getElem?_of_mem he
    have q := mj.bd i e.m (h i e hi)
    have li := (List.getElem?_eq_some_iff.mp hi).1
    have : (i : Int) * (10 ^ 38 + 1) ≤ 6 * (10 ^ 38 + 1) := Int.mul_le_mul_of_nonneg_right (by omega) (by decide)
    omega
  have c : (5 : Int) + 6 * (10 ^ 38 + 1) ≤ LM := by decide +kernel
  exact ⟨⟨n1, by omega, fun e he => ⟨(b e he).1, Int.le_trans (b e he).2 c⟩, fun i x y hx hy => mj.up i _ _ (h i x hx) (h (i + 1) y hy), fun x hx y hy => by rw [z x hx, z y hy]⟩, b⟩
theorem lift2 {p pl : Addr} {H H' : Hp} (n : H pl = none) (s : SameB p H H') : Same (hid [p] H) (hid [p, pl] H') := fun q o e => by
  obtain ⟨e1, e2⟩ := hid_get e
  have n1 : q ≠ p := fun z => e2 (List.mem_singleton.mpr z)
  exact hid_in (s _ _ e1 n1) fun z => by
    rcases List.mem_cons.mp z with z | z
    · exact n1 z
    · exact ne_of_none e1 n (List.mem_singleton.mp z)
theorem not2 {p pl q : Addr} (n1 : q ≠ p) (n2 : q ≠ pl) : q ∉ [p, pl] := fun z => by
  rcases List.mem_cons.mp z with z | z
  · exact n1 z
  · exact n2 (List.mem_singleton.mp z)
theorem odd_two {PC C p pl : Addr} {es : List Ed} {H : Hp} (st : StA H p) (h : PlAt PC C H pl es) : ∀ q ∈ [p, pl], ∀ o, H q = some o → (∃ a b, o = .lst [.int a, .int b]) ∨ ∃ c dx l, o = .ins c dx [(("_editions" : Str), .ref l)] := fun q hq o e => by
  rcases List.mem_cons.mp hq with rfl | hq
  · obtain ⟨a, b, e1, _⟩ := st
    rw [e1] at e
    exact .inl ⟨a, b, (Option.some.inj e).symm⟩
  · obtain ⟨dx, l, e1, _⟩ := h.ex
    rw [List.mem_singleton.mp hq, e1] at e
    exact .inr ⟨PC, dx, l, (Option.some.inj e).symm⟩
theorem due_w {rs : List Ed} {d : Deed} {a : Str} {i : Int} (h : dueE rs d = .inr (a, i)) : okW a := by
  have w1 : okW "limit" := by unfold okW; decide +kernel
  have w2 : okW "plan" := by unfold okW; decide +kernel
  have w3 : okW "edition" := by unfold okW; decide +kernel
  cases d with
  | add e =>
    have h : (if rs.length = 7 then .inr ("limit", 7) else if fwE (rs ++ [e]) = none then .inl (rs ++ [e]) else .inr ("plan", rs.length) : List Ed ⊕ (Str × Int)) = .inr (a, i) := h
    by_cases c : rs.length = 7
    · rw [if_pos c] at h; cases h; exact w1
    rw [if_neg c] at h
    by_cases g : fwE (rs ++ [e]) = none
    · rw [if_pos g] at h; cases h
    · rw [if_neg g] at h; cases h; exact w2
  | drop =>
    have h : (if 1 < rs.length then .inl rs.dropLast else .inr ("edition", 0) : List Ed ⊕ (Str × Int)) = .inr (a, i) := h
    by_cases c : 1 < rs.length
    · rw [if_pos c] at h; cases h
    · rw [if_neg c] at h; cases h; exact w3
  | set n e =>
    have h : (if n = rs.length then .inr ("edition", n) else if fwE (rs.set n e) = none then .inl (rs.set n e) else .inr ("plan", n) : List Ed ⊕ (Str × Int)) = .inr (a, i) := h
    by_cases c : n = rs.length
    · rw [if_pos c] at h; cases h; exact w3
    rw [if_neg c] at h
    by_cases g : fwE (rs.set n e) = none
    · rw [if_pos g] at h; cases h
    · rw [if_neg g] at h; cases h; exact w2
theorem use_right9 {PC C p lr : Addr} {es rs : List Ed} {H : Hp} {Q : VK} {E : XK} (pl : PlAt PC C H p es) (er : H lr = some (.lst (rs.map Ed.v))) (ar : ∀ e ∈ rs, EdAt C H e) (ek : es.map Ed.k = rs.map Ed.k) (bd : ∀ e ∈ rs, e.m + 10 ^ 30 ≤ LM) (k : ∀ H', Same H H' → Q (.bl true) H') : spRight9 PC C [.ref p, .ref lr] H Q E := by
  unfold spRight9
  exact ⟨p, lr, es, rs, rfl, pl, er, ar, ek, bd, k⟩
theorem use_peq {K : PySem.W.Frag} {PC C p p2 : Addr} {es es2 : List Ed} {H : Hp} {Q : VK} {E : XK} (pl : PlAt PC C H p es) (pl2 : PlAt PC C H p2 es2) (k : ∀ H', Same H H' → Q (.bl (eqEdB es es2)) H') : spPEqB K PC C [.ref p, .ref p2] H Q E := by
  unfold spPEqB
  exact ⟨p, .ref p2, es, rfl, pl, .inl ⟨p2, es2, rfl, pl2, k⟩⟩
theorem use_crf {PC C p : Addr} {es : List Ed} {H : Hp} {Q : VK} {E : XK} (pl : PlAt PC C H p es) (k : ∀ H', Same H H' → Q (.bl true) H') : spCrf PC C [.ref p] H Q E := by
  unfold spCrf
  exact ⟨p, es, rfl, pl, k⟩
end K09
namespace K09
open PySem PySem.Spec PyProof.Rows L2 Jg
local macro_rules | `(tactic| walk_at "rd1") => `(tactic| (first
  | refine ⟨_, rfl, ?_⟩
  | refine ⟨_, _, rfl, rfl, ?_⟩
  | refine ⟨_, _, rfl, ?_⟩
  | refine ⟨rfl, ?_⟩
  | (refine ⟨show (0 : Int) < _ by omega, ?_⟩)
  | (refine ⟨Or.inl ⟨by omega, by omega⟩, ?_⟩)
  | (refine ⟨Or.inr ⟨by omega, by omega⟩, ?_⟩)
  | (refine ⟨(⟨by decide, by decide, by decide⟩ : CPow _ _), ?_⟩)
  | refine Or.inl ⟨_, rfl, ?_⟩
  | refine Or.inr ⟨_, rfl, ?_⟩
  | fail "rd"))
local macro_rules | `(tactic| walk_at "rd") => `(tactic| repeat' walk_at "rd1")
open K09C (Use Td TdAt TdsAt TdG TdR Ww Wn Gn CtIs Ct CAt CtOk Wd StA SameB spDr spCh spTolds spWords use_choose use_toldI hid hid_in hid_get hid_same)
section
variable {P : Program} {w : World} {K : PySem.W.Frag} {mg : Str → Option Value} {base : Heap} {C PC CU CE CO CP CM : Addr}
theorem sc_law : FnScope ["script", "k", "stream", "some", "moments", "rows", "plan", "turn", "parts", "keys", "hands", "twin", "begun", "cut", "told", "moment", "step", "due"] ["script"] (defScope s_law) := ⟨rfl, rfl, rfl, by decide +kernel, rfl, by decide +kernel, by decide +kernel⟩
theorem body_law (T : TxP K mg) (J : K09C.CTx K mg C) (PT : PTx K mg PC) (PE2 : PEx K PC) (W8 : TstQ K PC) (G_law_stream : Cal P w K mg base CX0 1 "_law_stream" (K09C.spStream K)) (G_law_draw : Cal P w K mg base CX0 1 "_law_draw" spDr) (G_law_choose : Cal P w K mg base CX0 2 "_law_choose" (spCh K)) (G_law_words : Cal P w K mg base CX0 3 "_law_words" spWords) (G_law_told : Cal P w K mg base CX0 3 "_law_told" (K09C.spToldI K)) (G_law_tolds : Cal P w K mg base CX0 4 "_law_tolds" (spTolds K)) (G_law_contents : Cal P w K mg base CX0 9 "_law_contents" (K09C.spCon C)) (G_law_moments : Cal P w K mg base CX0 2 "_law_moments" spMom9)
    (M_Plan : Mak P w K mg base CX0 6 "Plan" PC (spPInit PC C)) (M_twin : Met P w K mg base CX0 8 PC "twin" (spTwin PC C)) (M_cut : Met P w K mg base CX0 8 PC "cut" (spCut PC C)) (M_plen : Met P w K mg base CX0 1 PC "__len__" (spPLen PC C)) (M_drop : Met P w K mg base (L2.CX P w) 3 PC "drop" (spPDropX PC C CE)) (M_add : Met P w K mg base (L2.CX P w) 7 PC "add" (spPAddX PC C CO CP)) (M_ceq : Met P w K mg base CX0 1 C "__eq__" (K09C.spCEq K C)) (M_peq : Met P w K mg base CX0 4 PC "__eq__" (spPEqB K PC C))
    (G_law_step : Cal P w K mg base CX0 5 "_law_step" (spStep C)) (G_law_done : Cal P w K mg base CX0 9 "_law_done" (spDone PC C)) (G_law_is_right : Cal P w K mg base CX0 9 "_law_is_right" (spRight9 PC C)) (G_law_current_refused : CalG P w K mg base CX0 6 "_law_current_refused" (spCrf PC C))
    (ff : Addr) (cdv : Value) (A : Around) (outer : List Env) (s : Shared) (H : Hp) (vs : List V) (Q : VK) (E : XK) (g : (A.deeper (envOfC "law" (defScope s_law) s.heap.objs.size ff cdv)).guards = some []) (hr : Room 11 (A.deeper (envOfC "law" (defScope s_law) s.heap.objs.size ff cdv))) (h : spLaw K vs H Q E) :
    ∃ t, PSs (cxOf CX0 P w K mg base ["script", "k", "stream", "some", "moments", "rows", "plan", "turn", "parts", "keys", "hands", "twin", "begun", "cut", "told", "moment", "step", "due"] "law" (defScope s_law) ff cdv A outer s H E).nox (defBody s_law) t ∧ t { nx := fun _ H' => Q .non H', rt := Q } (start ["script", "k", "stream", "some", "moments", "rows", "plan", "turn", "parts", "keys", "hands", "twin", "begun", "cut", "told", "moment", "step", "due"] vs) H := by
  obtain ⟨a, ns, rfl, hS, hl, k⟩ := h
  have hu : (A.deeper (envOfC "law" (defScope s_law) s.heap.objs.size ff cdv)).units + 64 < cLine := hr.units
  refine ⟨_, (pss_cons (ps_for PassesOwn.never rfl (pi_range1 (by rfl) T.b_range (pa_cons (pe_callB (call_max2 rfl) (by rfl) T.b_max (by decide +kernel) (pa_cons pe_int (pa_cons (pe_callB (call_min2 rfl) (by rfl) T.b_min (by decide +kernel) (pa_cons pe_int (pa_cons (pe_callB call_len_seq (by rfl) T.b_len (by decide +kernel) (pa_cons (pv 0) pa_nil)) pa_nil))) pa_nil))) pa_nil)) (pg_name (i := 1) sc_law.nd rfl (Or.inl rfl)) (pss_cons (ps_set (i := 2) sc_law.nd rfl (Or.inr rfl) (pe_c G_law_stream hr (by decide) rfl (pa_cons (pv 0) (pa_cons (pv 1) pa_nil))))
      (C8.pss_cut (ps_par3 (i := 8) (j := 9) (l := 10) (by rfl) sc_law.nd rfl rfl rfl (by decide) (by decide) (by decide) rfl rfl rfl (pa_cons (pe_c G_law_words hr (by decide) rfl (pa_cons (pv 2) (pa_cons pe_int pa_nil))) (pa_cons (pe_c G_law_words hr (by decide) rfl (pa_cons (pv 2) (pa_cons pe_int pa_nil))) (pa_cons (pe_c G_law_words hr (by decide) rfl (pa_cons (pv 2) (pa_cons pe_int pa_nil))) pa_nil))) (by rfl))
      (C8.pss_cut (ps_set (i := 3) sc_law.nd rfl (Or.inr rfl) (pe_lc (own := [("told", 14)]) (g := gName 14) (by rfl) sc_law.nd (pi_list (pe_c G_law_tolds hr (by decide) rfl (pa_cons (pv 2) (pa_cons pe_int (pa_cons (pv 8) (pa_cons (pv 9) (pa_cons (pv 10) pa_nil))))))) (blkOk_by (own := [("told", 14)]) (N := ["script", "k", "stream", "some", "moments", "rows", "plan", "turn", "parts", "keys", "hands", "twin", "begun", "cut", "told", "moment", "step", "due"]) (sc := defScope s_law) (by decide +kernel)) (fun _ _ _ _ _ => pg_name (i := 14) sc_law.nd rfl (Or.inl rfl)) (fun _ _ _ _ _ => pts_nil) (fun _ _ _ _ _ => (pe_c G_law_contents hr (by decide) rfl (pa_cons (pv 14) pa_nil)))))
      (C8.pss_cut (ps_expr (pe_bm F.plainAttrs_list F.slot_list_append F.type_list_append mt_append (pv 3) (pa_cons (pe_c G_law_contents hr (by decide) rfl (pa_cons (pe_c G_law_told hr (by decide) rfl (pa_cons (pv 2) (pa_cons (pe_slice sl_list (pv 8) po_none (po_some pe_int)) (pa_cons (pv 9) (pa_cons (pv 10) pa_nil))))) pa_nil)) pa_nil)))
      (C8.pss_cut (ps_set (i := 4) sc_law.nd rfl (Or.inl rfl) (pe_c G_law_moments hr (by decide) rfl (pa_cons (pv 2) (pa_cons (pe_op op_add pe_int (pe_c G_law_draw hr (by decide) rfl (pa_cons (pv 2) (pa_cons pe_int pa_nil)))) (pa_cons (pe_c G_law_choose hr (by decide) rfl (pa_cons (pv 2) (pa_cons (pe_lst (pa_cons pe_int (pa_cons pe_int (pa_cons (pe_op op_pow pe_int pe_int) pa_nil)))) pa_nil))) pa_nil)))))
      (C8.pss_cut (ps_setLc (i := 5) (own := [("moment", 15)]) (g := gName 15) (by rfl) sc_law.nd rfl rfl (sw_true rfl rfl rfl (by decide +kernel)) (pi_list (pv 4)) (blkOk_by (own := [("moment", 15)]) (N := ["script", "k", "stream", "some", "moments", "rows", "plan", "turn", "parts", "keys", "hands", "twin", "begun", "cut", "told", "moment", "step", "due"]) (sc := defScope s_law) (by decide +kernel)) (fun _ _ _ _ _ => pg_name (i := 15) sc_law.nd rfl (Or.inl rfl)) (fun _ _ _ _ _ => pts_nil) (fun _ _ _ _ _ => (pe_tup (pa_cons (pv 15) (pa_cons (pe_c G_law_choose hr (by decide) rfl (pa_cons (pv 2) (pa_cons (pe_slice (show SlR _ (rSlL K) from sl_list) (pv 3) po_none (po_some pe_int)) pa_nil))) pa_nil)))))
      (C8.pss_cut (ps_set (i := 6) sc_law.nd rfl (Or.inl rfl) (pe_mk M_Plan hr (by decide) rfl (pa_cons (pe_callTy call_list_of (by rfl) T.b_list (by decide +kernel) (pa_cons (pv 5) pa_nil)) pa_nil)))
      (C8.pss_cut (ps_par3 (i := 11) (j := 12) (l := 13) (by rfl) sc_law.nd rfl rfl rfl (by decide) (by decide) (by decide) rfl rfl rfl (pa_cons (pe_mz M_twin PT.cl hr (by decide) (pv 6)) (pa_cons (pe_callTy call_list_of (by rfl) T.b_list (by decide +kernel) (pa_cons (pv 5) pa_nil)) (pa_cons (pe_m M_cut PT.cl hr (by decide) (pv 6) (pa_cons (pe_op op_fdiv (pe_callB call_len_seq (by rfl) T.b_len (by decide +kernel) (pa_cons (pv 5) pa_nil)) pe_int) pa_nil)) pa_nil))) (by rfl))
      (C8.pss_cut (ps_for PassesOwn.never rfl (pi_range1 (by rfl) T.b_range (pa_cons pe_int pa_nil)) (pg_name (i := 7) sc_law.nd rfl (Or.inl rfl)) (C8.pss_cut (ps_asg (pe_c G_law_step hr (by decide) rfl (pa_cons (pv 2) (pa_cons (pv 5) (pa_cons (pv 3) pa_nil)))) (pg_lst rfl (pgs_cons (pg_name (i := 16) sc_law.nd rfl (Or.inl rfl)) (pgs_cons (pg_name (i := 17) sc_law.nd rfl (Or.inl rfl)) pgs_nil))))
      (C8.pss_cut (ps_set (i := 14) sc_law.nd rfl (Or.inl rfl) (pe_c G_law_done hr (by decide) rfl (pa_cons (pv 6) (pa_cons (pv 16) pa_nil))))
      (C8.pss_cut (ps_if (PW.pt (pw_or (pt_cmpR (op_eqB (rcB_list mon_flB eqB_flat) (hr.mono (by decide))) (pv 17) (pe_lst pa_nil) (nomark _)) (pw_or1 (pt_not (pt_val (pe_callB call_isi (by rfl) T.b_isinstance (by decide +kernel) (pa_cons (pe_ix (r := rIxL K) ix_list (pv 17) pe_int (fun _ _ => rfl)) (pa_cons (pe_ty (n := "tuple") (by rfl) T.b_tuple (by decide +kernel)) pa_nil)))))))) (pss_one (ps_if (pt_cmpR (op_neD hu) (pv 14) (pv 17) (nomark _)) (pss_one (ps_ret pe_bl)) pss_nil)) (pss_cons (ps_if (pt_cmpR (op_neD hu) (pv 14) (pe_lst (pa_cons pe_str (pa_cons (pe_ifExp (pt_cmpR op_eq (pe_ix (r := rIxT K) ix_tup (pv 16) pe_int (fun _ _ => rfl)) pe_str (nomark _)) (pe_callB call_len_seq (by rfl) T.b_len (by decide +kernel) (pa_cons (pv 5) pa_nil)) pe_non) pa_nil))) (nomark _)) (pss_one (ps_ret pe_bl)) pss_nil)
      (pss_one (ps_set (i := 5) sc_law.nd rfl (Or.inl rfl) (pv 17)))))
      (pss_one (ps_if (pt_not (pt_val (pe_c G_law_is_right hr (by decide) rfl (pa_cons (pv 6) (pa_cons (pv 5) pa_nil))))) (pss_one (ps_ret pe_bl)) pss_nil))))))
      (C8.pss_cut (ps_if (PW.pt (pw_or (pt_not (pt_val (pe_c G_law_is_right hr (by decide) rfl (pa_cons (pv 11) (pa_cons (pv 12) pa_nil))))) (pw_or1 (pt_not (pt_val (pe_c G_law_is_right hr (by decide) rfl (pa_cons (pv 13) (pa_cons (pe_slice sl_list (pv 12) po_none (po_some (pe_op op_add (pe_op op_fdiv (pe_callB call_len_seq (by rfl) T.b_len (by decide +kernel) (pa_cons (pv 12) pa_nil)) pe_int) pe_int))) pa_nil)))))))) (pss_one (ps_ret pe_bl)) pss_nil)
      (C8.pss_cut (ps_if (PW.pt (pw_or (pt_cmpR op_ne (pe_cmpR (op_eq_c M_peq hr (by decide)) (pv 6) (pv 11) (nomark _)) (pe_cmpR (op_eqLTB M_ceq ceB_sp ceB_mono hr (by decide)) (pv 5) (pv 12) (nomark _)) (nomark _)) (pw_or (pt_cmpR (op_eq_c M_peq hr (by decide)) (pv 6) (pv 5) (nomark _)) (pw_or1 (pt_not (pt_val (pe_cG G_law_current_refused g hr (by decide) rfl (pa_cons (pv 6) pa_nil)))))))) (pss_one (ps_ret pe_bl)) pss_nil)
      (C8.pss_cut (ps_if (pt_cmpR op_gt (pe_callB (call_lenO M_plen hr (by decide)) (by rfl) T.b_len (by decide +kernel) (pa_cons (pv 11) pa_nil)) pe_int (nomark _)) (pss_one (ps_expr (pe_mzS M_drop PT.cl takes0 hr (by decide) (pv 11)))) (pss_one (ps_expr (pe_mS M_add PT.cl takes0 hr (by decide) (pv 11) (pa_cons (pe_op op_pow pe_int pe_int) (pa_cons (pe_ix (r := rIxT K) ix_tup (pe_ix (r := rIxL K) ix_list (pv 12) pe_int (fun _ _ => rfl)) pe_int (fun _ _ => rfl)) pa_nil))))))
      (pss_one (ps_if (PW.pt (pw_or (pt_not (pt_val (pe_c G_law_is_right hr (by decide) rfl (pa_cons (pv 6) (pa_cons (pv 5) pa_nil))))) (pw_or1 (pt_cmpR op_eq (pe_callB (call_lenO M_plen hr (by decide)) (by rfl) T.b_len (by decide +kernel) (pa_cons (pv 11) pa_nil)) (pe_callB call_len_seq (by rfl) T.b_len (by decide +kernel) (pa_cons (pv 12) pa_nil)) (nomark _))))) (pss_one (ps_ret pe_bl)) pss_nil)))))))))))))))
      (pss_one (ps_ret pe_bl))), ?_⟩
  refine ⟨_, rfl, a, _, rfl, .inl hS, _, _, rfl, _, _, rfl, _, rfl, by split <;> split <;> omega, by rw [List.length_map]; split <;> split <;> omega, ?_⟩
  have tn : ∀ i : Nat, i < (if (if ((ns.map V.int).length : Int) < 8 then ((ns.map V.int).length : Int) else 8) > 1 then (if ((ns.map V.int).length : Int) < 8 then ((ns.map V.int).length : Int) else 8) else 1).toNat → i ≤ 1000 := by
    intro i hi
    rw [List.length_map] at hi
    split at hi <;> split at hi <;> omega
  show Exists _
  refine for_range (lo := 0) (fun i sg H' => (∃ v1 v2 v3 v4 v5 v6 v7 v8 v9 v10 v11 v12 v13 v14 v15 v16 v17 : Option V, sg = [some (.ref a), v1, v2, v3, v4, v5, v6, v7, v8, v9, v10, v11, v12, v13, v14, v15, v16, v17]) ∧ Same H H') ⟨⟨_, _, _, _, _, _, _, _, _, _, _, _, _, _, _, _, _, rfl⟩, .refl H⟩ ?_ ?_
  · rintro i sg H1 hi ⟨⟨v1, v2, v3, v4, v5, v6, v7, v8, v9, v10, v11, v12, v13, v14, v15, v16, v17, rfl⟩, s1⟩
    have hk := tn i hi
    clear tn hi
    have ei : (0 : Int) + (i : Nat) = ((i : Nat) : Int) := by omega
    rw [ei]
    refine ⟨_, rfl, _, rfl, a, ns, i, rfl, s1.seq hS, hk, fun p x y np hx => ?_⟩
    have sA : Same H1 (upd H1 p (.lst [.int x, .int y])) := same_new np
    have stA : StA (upd H1 p (.lst [.int x, .int y])) p := ⟨x, y, upd_same, hx⟩
    generalize upd H1 p (.lst [.int x, .int y]) = HA at *
    -- the words
    refine ⟨fun σ' H' => ∃ l1 l2 l3 parts keys hands, σ' = [some (.ref a), some (.int i), some (.ref p), v3, v4, v5, v6, v7, some (.ref l1), some (.ref l2), some (.ref l3), v11, v12, v13, v14, v15, v16, v17] ∧ Ww parts keys hands ∧ parts.length = 2 ∧ Gn p l1 l2 l3 parts keys hands H' ∧ Same H1 H', ?_, ?_⟩
    · refine ⟨_, rfl, p, 2, rfl, by decide, by decide, stA, fun l1 parts HC nl1 l1p pl pw pn e1 stC sC => ?_⟩
      refine ⟨_, rfl, p, 3, rfl, by decide, by decide, stC, fun l2 keys HD nl2 l2p kl kw kn e2 stD sD => ?_⟩
      refine ⟨_, rfl, p, 2, rfl, by decide, by decide, stD, fun l3 hands HE nl3 l3p hl_ hw hn e3 stE sE => ⟨_, _, _, rfl, ?_⟩⟩
      have pl2 : parts.length = 2 := pl
      have kl3 : keys.length = 3 := kl
      have hl2 : hands.length = 2 := hl_
      exact ⟨l1, l2, l3, parts, keys, hands, rfl, ⟨⟨by omega, by omega, by omega, by omega, kn, by omega, by omega, hn⟩, pn, by omega, by omega, pw, kw, hw⟩, pl2, ⟨stE, (sD.trans sE) _ _ e1 l1p, sE _ _ e2 l2p, e3⟩, SameB.out sA (sC.trans (sD.trans sE)) np⟩
    clear sA stA
    clear HA
    rintro _ HA ⟨l1, l2, l3, parts, keys, hands, rfl, ww, pl2, gn, sA⟩
    -- three contents
    refine ⟨fun σ' H' => ∃ (ls : Addr) (cs : List (Addr × Ct)), σ' = [some (.ref a), some (.int i), some (.ref p), some (.ref ls), v4, v5, v6, v7, some (.ref l1), some (.ref l2), some (.ref l3), v11, v12, v13, v14, v15, v16, v17] ∧ Gn p l1 l2 l3 parts keys hands H' ∧ Same H1 H' ∧ H1 ls = none ∧ ls ≠ p ∧ H' ls = some (.lst (cs.map fun q => V.ref q.1)) ∧ cs.length = 3 ∧ ∀ q ∈ cs, CAt (fun _ => True) C (hid [p, ls] H') q.1 q.2 ∧ CtOk q.2 ∧ q.2.us.map (·.z) = srtW parts, ?_, ?_⟩
    · refine ⟨_, rfl, _, rfl, _, rfl, _, rfl, use_tolds (n := 3) gn ww.n (by decide) (by decide) fun f qs ds HB nf fp ql ef td stB sB => ?_⟩
      refine ⟨f, rfl, ⟨_, SqL.of ef⟩, fun D nD => ?_⟩
      have gB := gn.keep sB stB
      have sAB := SameB.out sA sB np
      have Dp := stB.ne nD
      refine lc_list (K := K) (a := f) (xs := qs.map V.ref) (fun j H' => ∃ cs : List (Addr × Ct), H' D = some (.lst (cs.map fun q => V.ref q.1)) ∧ cs.length = j ∧ (∀ q ∈ cs, CAt (fun _ => True) C (hid [p, D] H') q.1 q.2 ∧ CtOk q.2 ∧ q.2.us.map (·.z) = srtW parts) ∧ Same HB H') ⟨[], upd_same, rfl, (fun _ h => nomatch h), same_new nD⟩ (fun j H' _ ⟨_, _, _, _, s⟩ => SqL.of (s _ _ ef)) ?_ ?_
      · rintro j v H' hv ⟨cs, eD, cl, ca, s'⟩
        obtain ⟨q, eq, rfl⟩ := refA_at (g := id) hv
        obtain ⟨d, ed, tq, tg⟩ := td.at_ eq
        have j3 : j < 3 := by have := (List.getElem?_eq_some_iff.mp eq).1; omega
        refine ⟨rfl, K09C.yes_if ⟨_, rfl, q, d, rfl, tq.same s', tg.r ww, fun z c H2 cz ok ci s2 => ?_⟩⟩
        have eD2 := s2 _ _ eD
        refine ⟨_, eD2, by rw [List.length_map, cl, sizeLine_eq]; omega, cs ++ [(z, c)], by rw [upd_same, List.map_append]; rfl, by rw [List.length_append, cl]; rfl, fun x hx => ?_, same_mut (s'.trans s2) nD⟩
        rw [hid_upd (List.mem_cons_of_mem _ (List.mem_singleton.mpr rfl))]
        rcases List.mem_append.mp hx with hx | hx
        · exact ⟨(ca x hx).1.same (hid_keep s2), (ca x hx).2⟩
        · rw [List.mem_singleton.mp hx]
          refine ⟨cat_new cz fun o no m => ?_, ok, by rw [ci.zs, tg.zs]⟩
          rcases List.mem_cons.mp m with rfl | m
          · exact (stB.keep s').ne no rfl
          · rw [List.mem_singleton.mp m, eD] at no; cases no
      · rintro HE ⟨cs, eD, cl, ca, s'⟩
        exact ⟨D, cs, rfl, gB.keep (SameB.of s') (stB.keep s'), sAB.trans s', sAB.free nD, Dp, eD, by rw [cl, List.length_map, ql], ca⟩
    clear sA gn
    clear HA
    rintro _ HA ⟨ls, cs, rfl, gn, sA, nls, lsp, els, cl, ca⟩
    -- and a fourth one
    refine ⟨fun σ' H' => ∃ cs : List (Addr × Ct), σ' = [some (.ref a), some (.int i), some (.ref p), some (.ref ls), v4, v5, v6, v7, some (.ref l1), some (.ref l2), some (.ref l3), v11, v12, v13, v14, v15, v16, v17] ∧ StA H' p ∧ Same H1 H' ∧ H' ls = some (.lst (cs.map fun q => V.ref q.1)) ∧ cs.length = 4 ∧ (∀ q ∈ cs, CAt (fun _ => True) C (hid [p] H') q.1 q.2 ∧ CtOk q.2) ∧ ∀ q ∈ cs.take 3, q.2.us.map (·.z) = srtW parts, ?_, ?_⟩
    · refine ⟨_, rfl, .inl ⟨rfl, _, .inl (.inl els)⟩, ?_⟩
      refine ⟨_, rfl, _, rfl, _, rfl, l1, _, rfl, SqL.of gn.e1, fun l4 n4 => ?_⟩
      have c2 : cutV (parts.map V.str) none (some 1) = (parts.take 1).map V.str := by
        rw [List.map_take]
        exact K09C.cut_low 1 (by rw [List.length_map]; omega)
      rw [c2]
      have g4 := same_new (o := .lst ((parts.take 1).map V.str)) n4
      have el4 : upd HA l4 (.lst ((parts.take 1).map V.str)) l4 = some (.lst ((parts.take 1).map V.str)) := upd_same
      have st4 := gn.st.keep g4
      have gn4 : Gn p l4 l2 l3 (parts.take 1) keys hands (upd HA l4 (.lst ((parts.take 1).map V.str))) := ⟨st4, el4, g4 _ _ gn.e2, g4 _ _ gn.e3⟩
      have els4 := g4 _ _ els
      generalize upd HA l4 (.lst ((parts.take 1).map V.str)) = H4 at *
      have tk1 : (parts.take 1).length = 1 := by rw [List.length_take]; omega
      have ww4 : Ww (parts.take 1) keys hands := ⟨⟨by omega, by omega, ww.n.k0, ww.n.k5, ww.n.kn, ww.n.h0, ww.n.h5, ww.n.hn⟩, ww.pn.sublist (List.take_sublist _ _), ww.k8, ww.h4, fun z hz => ww.pw z (List.mem_of_mem_take hz), ww.kw, ww.hw⟩
      refine ⟨_, rfl, _, rfl, use_toldI gn4 ww4.n fun q d HC tg nq tdq stC sC => ⟨q, d, rfl, tdq, tg.r ww4, fun z c H5 cz ok ci s5 => ?_⟩⟩
      have sb5 := ((SameB.of g4).trans sC).trans (SameB.of s5)
      have els5 := sb5 _ _ els lsp
      have st5 := stC.keep s5
      refine ⟨ls, _, _, rfl, rfl, els5, by rw [List.length_map, cl, sizeLine_eq]; decide, ?_⟩
      have pne : p ≠ ls := lsp.symm
      refine ⟨cs ++ [(z, c)], rfl, ?_, same_mut (SameB.out sA sb5 np) nls, by rw [upd_same, List.map_append]; rfl, by rw [List.length_append, cl]; rfl, fun x hx => ?_, fun x hx => ?_⟩
      · obtain ⟨a0, b0, e0, h0⟩ := st5
        exact ⟨a0, b0, by rw [upd_ne pne]; exact e0, h0⟩
      · have lift : Same (hid [p, ls] H5) (hid [p] (upd H5 ls (.lst ((cs.map fun q => V.ref q.1) ++ [.ref z])))) := by
          rw [← hid_upd (M := [p, ls]) (f := ls) (H := H5) (o := .lst ((cs.map fun q => V.ref q.1) ++ [.ref z])) (List.mem_cons_of_mem _ (List.mem_singleton.mpr rfl))]
          exact hid_less fun q hq => by rw [List.mem_singleton.mp hq]; exact List.mem_cons_self
        rcases List.mem_append.mp hx with hx | hx
        · exact ⟨((ca x hx).1.same (hid2 sb5 List.mem_cons_self)).same lift, (ca x hx).2.1⟩
        · rw [List.mem_singleton.mp hx]
          have elsC := (SameB.of g4).trans sC _ _ els lsp
          refine ⟨(cat_new cz fun o no m => ?_).same lift, ok⟩
          rcases List.mem_cons.mp m with rfl | m
          · exact stC.ne no rfl
          · rw [List.mem_singleton.mp m, elsC] at no; cases no
      · rw [List.take_append_of_le_length (by omega)] at hx
        exact (ca x (List.mem_of_mem_take hx)).2.2
    clear sA gn els ca cl
    clear cs
    clear HA
    rintro _ HA ⟨cs, rfl, stA, sA, els, cl, ca, cz⟩
    -- the moments
    refine ⟨fun σ' H' => ∃ (lm : Addr) (ms : List Int), σ' = [some (.ref a), some (.int i), some (.ref p), some (.ref ls), some (.ref lm), v5, v6, v7, some (.ref l1), some (.ref l2), some (.ref l3), v11, v12, v13, v14, v15, v16, v17] ∧ StA H' p ∧ Same H1 H' ∧ SameB p HA H' ∧ lm ≠ p ∧ H' lm = some (.lst (ms.map V.int)) ∧ 1 ≤ ms.length ∧ ms.length ≤ 7 ∧ MsJ ms, ?_, ?_⟩
    · refine ⟨_, rfl, _, rfl, use_drawB stA (by decide) (by decide +kernel) fun x1 H2 x10 x11 t2 s2 => ⟨_, _, rfl, rfl, ?_⟩⟩
      refine ⟨_, rfl, _, _, rfl, rfl, ⟨by decide, by decide, by decide⟩, by show 3 ≤ sizeLine; decide, fun a5 n5 => ?_⟩
      have g5 := same_new (o := .lst [.int 2, .int 5, .int (10 ^ (38 : Int).toNat)]) n5
      refine use_choose (t2.keep g5) (SqL.of upd_same) (t2.ne n5) (by show 0 < 3; decide) (by show 3 < 1000; decide) fun x6 H6 hx6 t6 s6 => ?_
      obtain ⟨st, rfl, f0, f1⟩ : ∃ st : Int, x6 = .int st ∧ 0 < st ∧ st ≤ 10 ^ 38 := by
        have p38 : (10 : Int) ^ (38 : Int).toNat = 10 ^ 38 := by decide +kernel
        have hx6 : x6 ∈ [V.int 2, V.int 5, V.int (10 ^ 38)] := by rw [← p38]; exact hx6
        rcases List.mem_cons.mp hx6 with rfl | hx
        · exact ⟨2, rfl, by decide, by decide +kernel⟩
        rcases List.mem_cons.mp hx with rfl | hx
        · exact ⟨5, rfl, by decide, by decide +kernel⟩
        rw [List.mem_singleton.mp hx]; exact ⟨10 ^ 38, rfl, by decide +kernel, Int.le_refl _⟩
      have s26 := s2.trans ((SameB.of g5).trans s6)
      refine use_mom9 t6 (by omega) (by omega) f0 f1 fun lm ms H7 nlm lmp ml mj em t7 s7 => ?_
      exact ⟨lm, ms, rfl, t7, SameB.out sA (s26.trans s7) np, s26.trans s7, lmp, em, by omega, by omega, mj⟩
    rintro _ HB ⟨lm, ms, rfl, stB, sB, sAB, lmp, em, m1, m7, mj⟩
    have elsB := sAB _ _ els lsp
    have caB : ∀ q ∈ cs, CAt (fun _ => True) C (hid [p] HB) q.1 q.2 ∧ CtOk q.2 := fun q hq => ⟨(ca q hq).1.same (hid2 sAB (List.mem_singleton.mpr rfl)), (ca q hq).2⟩
    clear stA sA els ca sAB
    clear HA
    -- the rows
    refine ⟨fun σ' H' => ∃ (lr : Addr) (rs : List Ed) (v15 : Option V), σ' = [some (.ref a), some (.int i), some (.ref p), some (.ref ls), some (.ref lm), some (.ref lr), v6, v7, some (.ref l1), some (.ref l2), some (.ref l3), v11, v12, v13, v14, v15, v16, v17] ∧ StA H' p ∧ Same H1 H' ∧ SameB p HB H' ∧ lr ≠ p ∧ H' lr = some (.lst (rs.map Ed.v)) ∧ (∀ e ∈ rs, EdAt C (hid [p] H') e) ∧ EdsOk rs ∧ ∀ e ∈ rs, 0 ≤ e.m ∧ e.m ≤ 5 + 6 * (10 ^ 38 + 1), ?_, ?_⟩
    · refine ⟨_, rfl, lm, rfl, ⟨_, SqL.of em⟩, fun D nD => ?_⟩
      have Dp := stB.ne nD
      refine lc_list (K := K) (a := lm) (xs := ms.map V.int) (fun j H' => ∃ rs : List Ed, H' D = some (.lst (rs.map Ed.v)) ∧ rs.length = j ∧ (∀ (i : Nat) (e : Ed), rs[i]? = some e → ms[i]? = some e.m) ∧ (∀ e ∈ rs, EdAt C (hid [p, D] H') e ∧ e.c.us.map (·.z) = srtW parts) ∧ StA H' p ∧ SameB p HB H') ⟨[], upd_same, rfl, (fun _ _ h => by simp at h), (fun _ h => nomatch h), stB.new nD, SameB.of (same_new nD)⟩ (fun j H' _ ⟨_, _, _, _, _, _, s⟩ => SqL.of (s _ _ em lmp)) ?_ ?_
      · rintro j v H' hv ⟨rs, eD, rl, rm, ra, st', sb⟩
        obtain ⟨m, hm, rfl⟩ := int_at hv
        have elsC := sb _ _ elsB lsp
        refine ⟨rfl, K09C.yes_if ⟨_, rfl, _, rfl, _, rfl, _, rfl, ls, _, rfl, SqL.of elsC, fun l3' n3 => ?_⟩⟩
        have c3 : cutV (cs.map fun q => V.ref q.1) none (some 3) = (cs.take 3).map fun q => V.ref q.1 := by
          rw [List.map_take]
          exact K09C.cut_low 3 (by rw [List.length_map]; omega)
        rw [c3]
        have g3 := same_new (o := .lst ((cs.take 3).map fun q => V.ref q.1)) n3
        have j7 : j < 7 := by have := (List.getElem?_eq_some_iff.mp hm).1; omega
        refine use_choose (st'.keep g3) (SqL.of upd_same) (st'.ne n3) (by rw [List.length_map, List.length_take]; omega) (by rw [List.length_map, List.length_take]; omega) fun v H4 hv4 t4 s4 => ?_
        obtain ⟨q, hq, rfl⟩ := List.mem_map.mp hv4
        have s34 := (SameB.of g3).trans s4
        have eD4 := s34 _ _ eD Dp
        refine ⟨by show 2 ≤ sizeLine; decide, fun t nt => ?_⟩
        have gt := same_new (o := .tup [.int m, .ref q.1]) nt
        have et : upd H4 t (.tup [.int m, .ref q.1]) t = some (.tup [.int m, .ref q.1]) := upd_same
        have tD : t ≠ D := fun z => by rw [z, eD4] at nt; cases nt
        have tp : t ≠ p := t4.ne nt
        have s35 := s34.trans (SameB.of gt)
        have eD5 := gt _ _ eD4
        have st5 := t4.keep gt
        generalize upd H4 t (.tup [.int m, .ref q.1]) = H5 at *
        have sall := sb.trans s35
        have lift : ∀ o5, Same (hid [p] HB) (hid [p, D] (upd H5 D o5)) := fun o5 q o e => by
          obtain ⟨e1, e2⟩ := hid_get e
          have n1 : q ≠ p := fun z => e2 (List.mem_singleton.mpr z)
          have n2 : q ≠ D := ne_of_none e1 nD
          exact hid_in (by rw [upd_ne n2]; exact sall _ _ e1 n1) fun z => by
            rcases List.mem_cons.mp z with z | z
            · exact n1 z
            · exact n2 (List.mem_singleton.mp z)
        refine ⟨_, eD5, by rw [List.length_map, rl, sizeLine_eq]; omega, rs ++ [⟨m, t, q.1, q.2⟩], by rw [upd_same, List.map_append]; rfl, by rw [List.length_append, rl]; rfl, fun i' e' he' => ?_, fun e' he' => ?_, ?_, fun o' e' ee n' => by rw [upd_ne (ne_of_none ee nD)]; exact sall _ _ ee n'⟩
        · by_cases cj : i' < rs.length
          · rw [List.getElem?_append_left cj] at he'; exact rm i' e' he'
          · have l2 := (List.getElem?_eq_some_iff.mp he').1
            rw [List.length_append] at l2
            have ej : i' = rs.length := by have : i' < rs.length + 1 := l2; omega
            subst ej
            rw [List.getElem?_append_right (Nat.le_refl _), Nat.sub_self] at he'
            cases Option.some.inj he'
            rw [rl]; exact hm
        · rcases List.mem_append.mp he' with he' | he'
          · rw [hid_upd (List.mem_cons_of_mem _ (List.mem_singleton.mpr rfl))]
            exact ⟨(ra e' he').1.same (hid2 s35 List.mem_cons_self), (ra e' he').2⟩
          · rw [List.mem_singleton.mp he']
            have mq := List.mem_of_mem_take hq
            refine ⟨⟨?_, (caB q mq).1.same (lift _), (caB q mq).2⟩, cz q hq⟩
            rw [hid_upd (List.mem_cons_of_mem _ (List.mem_singleton.mpr rfl))]
            refine hid_in et fun z => ?_
            rcases List.mem_cons.mp z with z | z
            · exact tp z
            · exact tD (List.mem_singleton.mp z)
        · obtain ⟨a0, b0, e0, h0⟩ := st5
          exact ⟨a0, b0, by rw [upd_ne Dp.symm]; exact e0, h0⟩
      · rintro HE ⟨rs, eD, rl, rm, ra, st', sb⟩
        rw [List.length_map] at rl
        obtain ⟨ok, bd⟩ := mj_ok mj m7 (by omega) (by omega) rm fun e he => (ra e he).2
        exact ⟨D, rs, _, rfl, st', SameB.out sB sb np, sb, Dp, eD, fun e he => (ra e he).1.same (hid_less fun q hq => by rw [List.mem_singleton.mp hq]; exact List.mem_cons_self), ok, bd⟩
    rintro _ HC ⟨lr, rs, v15', rfl, stC, sC, sBC, lrp, er, ar, ok, bd⟩
    have els := sBC _ _ elsB lsp
    have ca : ∀ q ∈ cs, CAt (fun _ => True) C (hid [p] HC) q.1 q.2 ∧ CtOk q.2 := fun q hq => ⟨(caB q hq).1.same (hid2 sBC (List.mem_singleton.mpr rfl)), (caB q hq).2⟩
    clear stB sB elsB caB sBC em mj
    clear HB
    -- the plan
    refine ⟨fun σ' H' => ∃ (pl : Addr) (es : List Ed), σ' = [some (.ref a), some (.int i), some (.ref p), some (.ref ls), some (.ref lm), some (.ref lr), some (.ref pl), v7, some (.ref l1), some (.ref l2), some (.ref l3), v11, v12, v13, v14, v15', v16, v17] ∧ StA H' p ∧ Same HC H' ∧ HC pl = none ∧ PlAt PC C H' pl es ∧ es.map Ed.k = rs.map Ed.k, ?_, ?_⟩
    · refine ⟨_, rfl, lr, _, rfl, .inl (SqL.of er), fun lp nlp => ?_⟩
      have gp := same_new (o := .lst (rs.map Ed.v)) nlp
      have elp : upd HC lp (.lst (rs.map Ed.v)) lp = some (.lst (rs.map Ed.v)) := upd_same
      generalize upd HC lp (.lst (rs.map Ed.v)) = H2 at *
      have arC : ∀ e ∈ rs, EdAt C H2 e := fun e he => ((ar e he).same hid_same).same gp
      intro x dx nx ndx nex
      refine ⟨x, dx, lp, rs, H2, rfl, upd_same, same_new' (same_new ndx) (by rw [upd_ne (Ne.symm nex)]; exact nx), nx, elp, arC, ok, fun H3 es pl ek s3 => ⟨rfl, ?_⟩⟩
      have s := gp.trans s3
      exact ⟨x, es, rfl, stC.keep s, s, gp.free nx, pl, ek⟩
    rintro _ HD ⟨pl, es, rfl, stD, sCD, npl, pD, ek⟩
    -- its twin, what began, the cut one
    refine ⟨fun σ' H' => ∃ (tw lb ct : Addr) (et ec : List Ed), σ' = [some (.ref a), some (.int i), some (.ref p), some (.ref ls), some (.ref lm), some (.ref lr), some (.ref pl), v7, some (.ref l1), some (.ref l2), some (.ref l3), some (.ref tw), some (.ref lb), some (.ref ct), v14, v15', v16, v17] ∧ Lv PC C p ls pl tw lb ct cs rs et ec H1 H' ∧ Lr PC C p pl lr rs es (5 + 6 * (10 ^ 38 + 1)) H' ∧ et.map Ed.k = rs.map Ed.k ∧ ec.map Ed.k = (rs.take (rs.length / 2 + 1)).map Ed.k ∧ H1 tw = none, ?_, ?_⟩
    · obtain ⟨dx, le, epl, ele⟩ := id pD.ex
      have erD := sCD _ _ er
      refine ⟨_, rfl, pl, dx, _, rfl, epl, get_eno _ (by decide +kernel), use_twin pD fun tw et H2 ntw s2 pt ekt => ?_⟩
      refine ⟨_, rfl, lr, _, rfl, .inl (SqL.of (s2 _ _ erD)), fun lb nlb => ?_⟩
      have gb := same_new (o := .lst (rs.map Ed.v)) nlb
      have elb : upd H2 lb (.lst (rs.map Ed.v)) lb = some (.lst (rs.map Ed.v)) := upd_same
      have epl2 := s2 _ _ epl
      have lbp : lb ≠ pl := fun z => by rw [z, epl2] at nlb; cases nlb
      have lbs : lb ≠ p := (stD.keep s2).ne nlb
      generalize upd H2 lb (.lst (rs.map Ed.v)) = H3 at *
      have s23 := s2.trans gb
      refine ⟨_, rfl, pl, dx, _, rfl, s23 _ _ epl, get_eno _ (by decide +kernel), _, rfl, lr, _, rfl, .inl (SqL.of (s23 _ _ erD)), _, _, rfl, rfl, ⟨by decide, by decide⟩, use_cut (n := rs.length / 2) (by rw [List.length_map]; omega) (pD.same s23) (by have := k_len ek; have := ok.n1; omega) fun ct ec H4 nct s4 pc ekc => ⟨_, _, _, rfl, ?_⟩⟩
      have s24 := s23.trans s4
      have sC4 := sCD.trans s24
      have st4 := stD.keep s24
      have p4 := pD.same s24
      have lf : Same (hid [p] HC) (hid [p, pl] H4) := lift2 npl (SameB.of sC4)
      have twp : tw ∉ [p, pl] := not2 (stD.ne ntw) fun z => by rw [z, epl] at ntw; cases ntw
      have ctp : ct ∉ [p, pl] := not2 ((stD.keep s23).ne nct) fun z => by rw [z, s23 _ _ epl] at nct; cases nct
      have ekc' : ec.map Ed.k = (rs.take (rs.length / 2 + 1)).map Ed.k := by rw [ekc, List.map_take, List.map_take, ek]
      refine ⟨tw, lb, ct, et, ec, rfl, ⟨st4, lf _ _ (hid_in els fun z => lsp (List.mem_singleton.mp z)), fun q hq => ⟨(ca q hq).1.same lf, (ca q hq).2⟩, plat_off (pt.same (gb.trans s4)) twp (odd_two st4 p4), plat_off pc ctp (odd_two st4 p4), hid_in (s4 _ _ elb) (not2 lbs lbp), fun e he => (ar e he).same lf, sC.trans sC4, np, sC.free npl, stC.ne npl⟩, ⟨lf _ _ (hid_in er fun z => lrp (List.mem_singleton.mp z)), fun e he => (ar e he).same lf, bd, ok.n1, ok.n7, p4.x, ek⟩, ekt.trans ek, ekc', (sC.trans sCD).free ntw⟩
    clear stC sC lrp er ar els ca stD sCD npl pD
    clear HC
    clear HD
    rintro _ HA ⟨tw, lb, ct, et, ec, rfl, lv, lw, ekt, ekc, ntw⟩
    generalize ebs : rs = bs at *
    refine ⟨fun σ' H' => ∃ (lr : Addr) (rs es : List Ed) (v7 v14 v16 v17 : Option V), σ' = [some (.ref a), some (.int i), some (.ref p), some (.ref ls), some (.ref lm), some (.ref lr), some (.ref pl), v7, some (.ref l1), some (.ref l2), some (.ref l3), some (.ref tw), some (.ref lb), some (.ref ct), v14, v15', v16, v17] ∧ Lv PC C p ls pl tw lb ct cs bs et ec H1 H' ∧ Lr PC C p pl lr rs es (10 ^ 39) H', ?_, ?_⟩
    · refine ⟨_, rfl, by decide, by decide, ?_⟩
      have c39 : (5 : Int) + 6 * (10 ^ 38 + 1) + 3 * 12 ≤ 10 ^ 39 := by decide +kernel
      have cLM : (10 : Int) ^ 39 + 3 ≤ LM := by decide +kernel
      refine for_range (lo := 0) (fun t σ' H' => ∃ (lr : Addr) (rs es : List Ed) (v7 v14 v16 v17 : Option V), σ' = [some (.ref a), some (.int i), some (.ref p), some (.ref ls), some (.ref lm), some (.ref lr), some (.ref pl), v7, some (.ref l1), some (.ref l2), some (.ref l3), some (.ref tw), some (.ref lb), some (.ref ct), v14, v15', v16, v17] ∧ Lv PC C p ls pl tw lb ct cs bs et ec H1 H' ∧ Lr PC C p pl lr rs es (5 + 6 * (10 ^ 38 + 1) + 3 * (t : Int)) H') ⟨lr, bs, es, v7, v14, v16, v17, rfl, lv, lw.up (by show (5 : Int) + 6 * (10 ^ 38 + 1) ≤ 5 + 6 * (10 ^ 38 + 1) + 3 * ((0 : Nat) : Int); omega)⟩ ?_ ?_
      · clear lv lw ekt ekc ek ebs
        clear HA
        clear lr es v7 v14 v16 v17
        rintro t σ' HB ht ⟨lr, rs, es, v7, v14, v16, v17, rfl, lv, lw⟩
        have t12 : t < 12 := ht
        obtain ⟨hi, ehi⟩ : ∃ hi : Int, hi = 5 + 6 * (10 ^ 38 + 1) + 3 * (t : Int) := ⟨_, rfl⟩
        have ehi2 : (5 : Int) + 6 * (10 ^ 38 + 1) + 3 * ((t + 1 : Nat) : Int) = hi + 3 := by omega
        rw [ehi2]
        rw [← ehi] at lw
        have hi39 : hi + 3 ≤ 10 ^ 39 := by omega
        -- a step
        refine ⟨fun σ' H' => ∃ (st du : Addr) (d : Deed), σ' = [some (.ref a), some (.int i), some (.ref p), some (.ref ls), some (.ref lm), some (.ref lr), some (.ref pl), some (.int (0 + (t : Int))), some (.ref l1), some (.ref l2), some (.ref l3), some (.ref tw), some (.ref lb), some (.ref ct), v14, v15', some (.ref st), some (.ref du)] ∧ Lv PC C p ls pl tw lb ct cs bs et ec H1 H' ∧ Lr PC C p pl lr rs es hi H' ∧ H' st = some (.tup d.row) ∧ H' du = some (.lst (dueV (dueE rs d))) ∧ du ≠ p ∧ DeedAt C (hid [p, pl] H') rs (hi + 3) d, ?_, ?_⟩
        · refine ⟨_, rfl, _, rfl, _, rfl, ?_⟩
          unfold spStep
          have l1_ : Same (hid [p, pl] HB) (hid [p] HB) := hid_less fun q hq => by rw [List.mem_singleton.mp hq]; exact List.mem_cons_self
          refine ⟨p, lr, ls, rs, cs, hi, rfl, lv.st, hid_same _ _ lw.er, fun e he => (lw.ar e he).same l1_, lw.bd, lw.n1, lw.n7, hid_same _ _ lv.es_, by rw [cl]; decide, by rw [cl]; decide, fun q hq => ⟨(lv.ca q hq).1.same l1_, (lv.ca q hq).2⟩, fun L st du d H' Lp eL est edu dup da st' sb => ?_⟩
          have lw' := lw.sb lv.st sb lv.pp
          refine ⟨L, _, rfl, SqL.of eL, rfl, _, _, rfl, _, _, rfl, rfl, ?_⟩
          exact ⟨st, du, d, rfl, lv.mono st' (sb2 sb), lw', est, edu, dup, (da.mono hid_same (Int.le_refl _) rfl).odd (odd2 st' lw'.pl.pl)⟩
        clear lv lw
        clear HB
        rintro _ HB ⟨st, du, d, rfl, lv, lw, est, edu, dup, da⟩
        obtain ⟨dxp, lep, epl, ele9⟩ := lw.pl.ex
        have stpl : st ≠ pl := fun z => by rw [z, epl] at est; cases est
        have dupl : du ≠ pl := fun z => by rw [z, epl] at edu; cases edu
        -- it is done
        refine ⟨fun σ' H' => ∃ (tl : Addr) (es2 : List Ed), σ' = [some (.ref a), some (.int i), some (.ref p), some (.ref ls), some (.ref lm), some (.ref lr), some (.ref pl), some (.int (0 + (t : Int))), some (.ref l1), some (.ref l2), some (.ref l3), some (.ref tw), some (.ref lb), some (.ref ct), some (.ref tl), v15', some (.ref st), some (.ref du)] ∧ Lv PC C p ls pl tw lb ct cs bs et ec H1 H' ∧ H' st = some (.tup d.row) ∧ H' du = some (.lst (dueV (dueE rs d))) ∧ hid [p, pl] H' lr = some (.lst (rs.map Ed.v)) ∧ ((∃ rs', dueE rs d = .inl rs' ∧ Lr PC C p pl du rs' es2 (hi + 3) H' ∧ H' tl = some (.lst [.str "number", okV rs d])) ∨ ∃ a' i', dueE rs d = .inr (a', i') ∧ Lr PC C p pl lr rs es2 hi H' ∧ H' tl = some (.lst [.str a', .int i'])), ?_, ?_⟩
        · refine ⟨_, rfl, _, rfl, ?_⟩
          unfold spDone
          have dk := due_k lw.ek d
          have len := k_len lw.ek
          have okE : okV es d = okV rs d := by
            cases d with
            | add e => show V.int es.length = V.int rs.length; rw [len]
            | drop => rfl
            | set n e => rfl
          refine ⟨pl, st, es, d, rfl, lw.pl, est, da.mono (hid_less fun q hq => by rw [List.mem_singleton.mp hq]; exact List.mem_cons_of_mem _ (List.mem_singleton.mpr rfl)) (by omega) len.symm, fun es' he l es2 H' nl sp p2 ek2 el => ?_, fun a' i' he l H' nl s' el => ?_⟩
          · cases hd : dueE rs d with
            | inr q =>
              obtain ⟨a', i'⟩ := q
              have := dk.1 a' i' hd
              rw [this] at he; cases he
            | inl rs' =>
              obtain ⟨es'', h1, h2⟩ := dk.2 rs' hd
              rw [h1] at he
              cases he
              rw [hd] at edu
              have stH := sta_sp lv.st sp lv.pp
              obtain ⟨n1, n7⟩ := due_len lw.n1 lw.n7 hd
              have mem : ∀ e ∈ rs', EdAt C (hid [p, pl] HB) e ∧ 0 ≤ e.m ∧ e.m ≤ hi + 3 := fun e he => by
                rcases due_mem hd e he with h | h
                · exact ⟨lw.ar e h, (lw.bd e h).1, by have := (lw.bd e h).2; omega⟩
                · exact da.ed e h
              refine ⟨l, es2, rfl, lv.mono stH (sp2 sp), sp _ _ est stpl, sp _ _ edu dupl, sp2 sp _ _ lw.er, .inl ⟨rs', rfl, ⟨hid_in (sp _ _ edu dupl) (not2 dup dupl), fun e he => (mem e he).1.same (sp2 sp), fun e he => (mem e he).2, n1, n7, p2, ek2.trans h2⟩, by rw [← okE]; exact el⟩⟩
          · cases hd : dueE rs d with
            | inl rs' =>
              obtain ⟨es'', h1, h2⟩ := dk.2 rs' hd
              rw [h1] at he; cases he
            | inr q =>
              obtain ⟨a2, i2⟩ := q
              have h1 := dk.1 a2 i2 hd
              rw [h1] at he
              cases he
              rw [hd] at edu
              exact ⟨l, es, rfl, lv.mono (lv.st.keep s') (sb2 (SameB.of s')), s' _ _ est, s' _ _ edu, sb2 (SameB.of s') _ _ lw.er, .inr ⟨_, _, rfl, lw.sb lv.st (SameB.of s') lv.pp, el⟩⟩
        clear lv lw est edu da epl ele9
        clear HB es
        rintro _ HB ⟨tl, es, rfl, lv, est, edu, er, hh⟩
        -- it is told
        refine ⟨fun σ' H' => ∃ (lr' : Addr) (rs' : List Ed), σ' = [some (.ref a), some (.int i), some (.ref p), some (.ref ls), some (.ref lm), some (.ref lr'), some (.ref pl), some (.int (0 + (t : Int))), some (.ref l1), some (.ref l2), some (.ref l3), some (.ref tw), some (.ref lb), some (.ref ct), some (.ref tl), v15', some (.ref st), some (.ref du)] ∧ Lv PC C p ls pl tw lb ct cs bs et ec H1 H' ∧ Lr PC C p pl lr' rs' es (hi + 3) H', ?_, ?_⟩
        · refine ⟨_, rfl, by show 0 ≤ sizeLine; decide, fun l0 nl0 => ?_⟩
          have g0 := same_new (o := .lst []) nl0
          refine ⟨_, len_eq0 (g0 _ _ edu) upd_same, fun H4 x4 => ?_⟩
          have s4 := g0.trans x4
          have lv4 := lv.mono (lv.st.keep s4) (sb2 (SameB.of s4))
          have est4 := s4 _ _ est
          have edu4 := s4 _ _ edu
          have er4 := hid_same _ _ (sb2 (SameB.of s4) _ _ er)
          rcases hh with ⟨rs', hd, lw, etl⟩ | ⟨a', i', hd, lw, etl⟩
          · rw [hd] at edu4 ⊢
            obtain ⟨r0, rr, er0⟩ := ed_new lw.n1
            have lw4 := lw.sb lv.st (SameB.of s4) lv.pp
            have edu5 : H4 du = some (.lst (rs'.map Ed.v)) := edu4
            have a0 := lw4.ar r0 (by rw [er0]; exact List.mem_cons_self)
            refine ⟨_, rfl, iteFe (decide_eq_false (by show ¬ rs'.map Ed.v = []; rw [er0]; exact fun z => nomatch z)) ?_⟩
            refine ⟨_, rfl, du, _, 0, .ref r0.t, rfl, rfl, SqL.of edu5, atI_nat (j := 0) (by rw [er0]; rfl), .ref r0.t, .ty "tuple", _, _, true, rfl, .ty "tuple", .base (.tup (hid_same _ _ a0.tp)), kit_ty (by decide +kernel), true, rfl, iteFe rfl ?_⟩
            have num : okW "number" := by unfold okW; decide +kernel
            have etl4 := s4 _ _ etl
            have fin : ∀ (zz : Addr) (o : HO), H4 zz = none → ∃ (lr' : Addr) (rs'' : List Ed), ([some (.ref a), some (.int i), some (.ref p), some (.ref ls), some (.ref lm), some (.ref du), some (.ref pl), some (.int (0 + (t : Int))), some (.ref l1), some (.ref l2), some (.ref l3), some (.ref tw), some (.ref lb), some (.ref ct), some (.ref tl), v15', some (.ref st), some (.ref du)] : L2.St) = [some (.ref a), some (.int i), some (.ref p), some (.ref ls), some (.ref lm), some (.ref lr'), some (.ref pl), some (.int (0 + (t : Int))), some (.ref l1), some (.ref l2), some (.ref l3), some (.ref tw), some (.ref lb), some (.ref ct), some (.ref tl), v15', some (.ref st), some (.ref du)] ∧ Lv PC C p ls pl tw lb ct cs bs et ec H1 (upd H4 zz o) ∧ Lr PC C p pl lr' rs'' es (hi + 3) (upd H4 zz o) := fun x o nx =>
              have g := same_new (o := o) nx
              ⟨du, rs', rfl, lv4.mono (lv4.st.keep g) (sb2 (SameB.of g)), lw4.sb lv4.st (SameB.of g) lv.pp⟩
            cases d with
            | add e =>
              refine ⟨_, rfl, _, rfl, st, _, 0, _, rfl, rfl, SqT.of est4, atI_nat (j := 0) rfl, rfl, _, rfl, iteTe (decide_eq_true rfl) ?_⟩
              refine ⟨_, rfl, lr, _, rfl, .inl (SqL.of er4), by show 2 ≤ sizeLine; decide, fun x nx => ?_⟩
              rw [List.length_map]
              exact ask_num num (.inl ⟨_, rfl⟩) (same_new nx _ _ etl4) upd_same ⟨_, rfl, iteFe rfl ⟨_, rfl, fin x _ nx⟩⟩
            | drop =>
              refine ⟨_, rfl, _, rfl, st, _, 0, _, rfl, rfl, SqT.of est4, atI_nat (j := 0) rfl, rfl, _, rfl, iteFe (decide_eq_false (fun z => absurd (V.str.inj z) (by decide +kernel))) ?_⟩
              exact ⟨by show 2 ≤ sizeLine; decide, fun x nx => ask_num num (.inr rfl) (same_new nx _ _ etl4) upd_same ⟨_, rfl, iteFe rfl ⟨_, rfl, fin x _ nx⟩⟩⟩
            | set n e =>
              refine ⟨_, rfl, _, rfl, st, _, 0, _, rfl, rfl, SqT.of est4, atI_nat (j := 0) rfl, rfl, _, rfl, iteFe (decide_eq_false (fun z => absurd (V.str.inj z) (by decide +kernel))) ?_⟩
              exact ⟨by show 2 ≤ sizeLine; decide, fun x nx => ask_num num (.inr rfl) (same_new nx _ _ etl4) upd_same ⟨_, rfl, iteFe rfl ⟨_, rfl, fin x _ nx⟩⟩⟩
          · rw [hd] at edu4 ⊢
            have edu5 : H4 du = some (.lst [.str a', .int i']) := edu4
            refine ⟨_, rfl, iteFe (decide_eq_false (fun z => nomatch z)) ?_⟩
            refine ⟨_, rfl, du, _, 0, .str a', rfl, rfl, SqL.of edu5, atI_nat (j := 0) rfl, .str a', .ty "tuple", _, _, false, rfl, .ty "tuple", .base (.str _), kit_ty (by decide +kernel), false, rfl, iteTe rfl ?_⟩
            exact ⟨_, rfl, _, rfl, ask_num (due_w hd) (.inl ⟨_, rfl⟩) (s4 _ _ etl) edu5 ⟨_, rfl, iteFe rfl ⟨lr, rs, rfl, lv4, (lw.sb lv.st (SameB.of s4) lv.pp).up (by omega)⟩⟩⟩
        clear lv est edu er hh
        clear HB
        rintro _ HB ⟨lr', rs', rfl, lv, lw⟩
        refine ⟨_, rfl, _, rfl, use_right9 lw.pl.pl (hid_same _ _ lw.er) (fun e he => (lw.ar e he).same hid_same) lw.ek (fun e he => ?_) fun H' s' => ⟨_, rfl, iteFe rfl ?_⟩⟩
        · have := (lw.bd e he).2
          have c : (10 : Int) ^ 39 + 10 ^ 30 ≤ LM := by decide +kernel
          omega
        · exact ⟨lr', rs', es, _, _, _, _, rfl, lv.mono (lv.st.keep s') (sb2 (SameB.of s')), lw.sb lv.st (SameB.of s') lv.pp⟩
      · rintro σ' HB ⟨lr, rs, es, v7, v14, v16, v17, rfl, lv, lw⟩
        exact ⟨lr, rs, es, _, _, _, _, rfl, lv, lw.up (by show (5 : Int) + 6 * (10 ^ 38 + 1) + 3 * ((12 : Nat) : Int) ≤ _; omega)⟩
    rintro _ HB ⟨lr, rs, es, v7, v14, v16, v17, rfl, lv, lw⟩
    have c30 : (5 : Int) + 6 * (10 ^ 38 + 1) + 10 ^ 30 ≤ LM := by decide +kernel
    have c39 : (10 : Int) ^ 39 + 10 ^ 30 ≤ LM := by decide +kernel
    have c40 : (10 : Int) ^ (40 : Int).toNat = LM := by decide +kernel
    have bdB : ∀ e ∈ bs, e.m + 10 ^ 30 ≤ LM := fun e he => by have := (bd e he).2; omega
    have bdR : ∀ e ∈ rs, e.m + 10 ^ 30 ≤ LM := fun e he => by have := (lw.bd e he).2; omega
    refine ⟨fun σ' H' => σ' = [some (.ref a), some (.int i), some (.ref p), some (.ref ls), some (.ref lm), some (.ref lr), some (.ref pl), v7, some (.ref l1), some (.ref l2), some (.ref l3), some (.ref tw), some (.ref lb), some (.ref ct), v14, v15', v16, v17] ∧ Same HB H', ?_, ?_⟩
    · refine ⟨_, rfl, _, rfl, use_right9 (lv.tw.same hid_same) (hid_same _ _ lv.eb) (fun e he => (lv.ab e he).same hid_same) ekt bdB fun H2 s2 => ⟨_, rfl, iteFe rfl ?_⟩⟩
      have eb2 := s2 _ _ (hid_same _ _ lv.eb)
      refine ⟨_, rfl, _, rfl, _, rfl, lb, _, rfl, .inl (SqL.of eb2), _, _, rfl, rfl, ⟨by decide, by decide⟩, _, _, rfl, rfl, _, rfl, lb, _, rfl, SqL.of eb2, fun lx nlx => ?_⟩
      have n1 := ok.n1
      have ex : (((bs.map Ed.v).length : Int)) / 2 + 1 = ((bs.length / 2 + 1 : Nat) : Int) := by rw [List.length_map]; omega
      have cx : cutV (bs.map Ed.v) none (some ((((bs.map Ed.v).length : Int)) / 2 + 1)) = (bs.take (bs.length / 2 + 1)).map Ed.v := by
        rw [ex, List.map_take]
        exact K09C.cut_low _ (by rw [List.length_map]; omega)
      rw [cx]
      have gx := same_new (o := .lst ((bs.take (bs.length / 2 + 1)).map Ed.v)) nlx
      have s3 := s2.trans gx
      refine use_right9 ((lv.ct.same hid_same).same s3) upd_same (fun e he => ((lv.ab e (List.mem_of_mem_take he)).same hid_same).same s3) ekc (fun e he => bdB e (List.mem_of_mem_take he)) fun H4 s4 => ⟨_, rfl, iteFe rfl ⟨rfl, s3.trans s4⟩⟩
    rintro _ HC ⟨rfl, sBC⟩
    have lvC := lv.mono (lv.st.keep sBC) (sb2 (SameB.of sBC))
    have lwC := lw.sb lv.st (SameB.of sBC) lv.pp
    clear lv lw sBC
    clear HB
    refine ⟨fun σ' H' => σ' = [some (.ref a), some (.int i), some (.ref p), some (.ref ls), some (.ref lm), some (.ref lr), some (.ref pl), v7, some (.ref l1), some (.ref l2), some (.ref l3), some (.ref tw), some (.ref lb), some (.ref ct), v14, v15', v16, v17] ∧ Same HC H', ?_, ?_⟩
    · obtain ⟨dx, le, epl, ele⟩ := id lwC.pl.pl.ex
      obtain ⟨dx2, le2, etw, ele2⟩ := id (lvC.tw.same hid_same).ex
      refine ⟨_, rfl, _, rfl, pl, dx, _, .ref PC, rfl, epl, PE2.ty PT etw, PE2.oCC, use_peq lwC.pl.pl (lvC.tw.same hid_same) fun H2 s2 => ⟨_, rfl, ?_⟩⟩
      refine ⟨_, rfl, _, rfl, eqEdB rs bs, ask_eds (s2 _ _ (hid_same _ _ lwC.er)) (s2 _ _ (hid_same _ _ lvC.eb)) (fun e he => ((lwC.ar e he).same hid_same).same s2) (fun e he => ((lvC.ab e he).same hid_same).same s2), fun H3 s3 => ?_⟩
      have s23 := s2.trans s3
      have eE : eqEdB es et = eqEdB rs bs := eqEdB_mc (k_mc lwC.ek) (k_mc ekt)
      refine ⟨rfl, _, rfl, iteFe (by show (!decide (V.bl (eqEdB es et) = V.bl (eqEdB rs bs))) = false; rw [eE, decide_eq_true rfl]; rfl) ?_⟩
      refine ⟨_, rfl, _, rfl, pl, dx, _, .type "list", rfl, s23 _ _ epl, .base (.lst (s23 _ _ (hid_same _ _ lwC.er))), W8.oLP, ?_⟩
      unfold spPEqB
      refine ⟨pl, .ref lr, es, rfl, lwC.pl.pl.same s23, .inr ⟨.type "list", .base (.lst (s23 _ _ (hid_same _ _ lwC.er))), W8.kLP, ⟨_, rfl, ?_⟩⟩⟩
      refine ⟨_, rfl, iteFe rfl ?_⟩
      refine ⟨_, rfl, use_crf (lwC.pl.pl.same s23) fun H4 s4 => ⟨_, rfl, iteFe rfl ⟨rfl, s23.trans s4⟩⟩⟩
    rintro _ HD ⟨rfl, sCD⟩
    have sHD := lvC.sm.trans sCD
    have pT := (lvC.tw.same hid_same).same sCD
    have pP := lwC.pl.pl.same sCD
    have erD := sCD _ _ (hid_same _ _ lwC.er)
    have ebD := sCD _ _ (hid_same _ _ lvC.eb)
    have arD : ∀ e ∈ rs, EdAt C HD e := fun e he => ((lwC.ar e he).same hid_same).same sCD
    have abD : ∀ e ∈ bs, EdAt C HD e := fun e he => ((lvC.ab e he).same hid_same).same sCD
    have twn : pl ≠ tw := fun z => by
      obtain ⟨dx2, le2, etw, ele2⟩ := id lvC.tw.ex
      exact (hid_get etw).2 (by rw [← z]; exact List.mem_cons_of_mem _ (List.mem_singleton.mpr rfl))
    have ekR := lwC.ek
    clear lvC lwC sCD
    clear HC
    refine ⟨fun σ' H' => σ' = [some (.ref a), some (.int i), some (.ref p), some (.ref ls), some (.ref lm), some (.ref lr), some (.ref pl), v7, some (.ref l1), some (.ref l2), some (.ref l3), some (.ref tw), some (.ref lb), some (.ref ct), v14, v15', v16, v17] ∧ (∃ et2, PlAt PC C H' tw et2 ∧ et2.length ≠ bs.length) ∧ SameP tw HD H', ?_, ?_⟩
    · obtain ⟨dx2, le2, etw, ele2⟩ := id pT.ex
      have lt : et.length = bs.length := k_len ekt
      have n1 := ok.n1
      have n7 := ok.n7
      refine ⟨_, rfl, tw, dx2, _, rfl, etw, tw, et, rfl, pT, et.length, rfl, by omega, by omega, _, _, rfl, rfl, _, rfl, ?_⟩
      by_cases c : 1 < et.length
      · have ne : et ≠ [] := fun z => by rw [z] at c; exact absurd c (by decide)
        refine iteTe (decide_eq_true (by omega)) ⟨_, rfl, tw, dx2, _, rfl, etw, get_eno _ (by decide +kernel), ?_⟩
        unfold spPDropX
        exact ⟨tw, et, rfl, pT.x, .inr ⟨et.dropLast, et.getLast ne, (List.dropLast_concat_getLast ne).symm, by rw [List.length_dropLast]; omega, fun H' sP p2 => ⟨rfl, ⟨et.dropLast, p2.pl, by rw [List.length_dropLast]; omega⟩, sP⟩⟩⟩
      · obtain ⟨b0, h0⟩ : ∃ b0, bs[0]? = some b0 := ⟨_, List.getElem?_eq_getElem (by omega)⟩
        obtain ⟨e0, he0⟩ : ∃ e0, et[0]? = some e0 := ⟨_, List.getElem?_eq_getElem (by omega)⟩
        have kk : Ed.k e0 = Ed.k b0 := by
          have q := congrArg (fun l => l[0]?) ekt
          simp only [List.getElem?_map, he0, h0] at q
          exact Option.some.inj q
        have km : e0.m = b0.m := congrArg (·.1) kk
        have kc : e0.c = b0.c := congrArg (·.2.2) kk
        have A0 := abD b0 (List.mem_of_getElem? h0)
        refine iteFe (decide_eq_false (by omega)) ⟨_, rfl, tw, dx2, _, rfl, etw, get_eno _ (by decide +kernel), _, _, rfl, rfl, ⟨by decide, by decide, by decide⟩, _, rfl, lb, _, 0, .ref b0.t, rfl, rfl, SqL.of ebD, atI_nat (j := 0) (ed_get h0), b0.t, _, 1, _, rfl, rfl, SqT.of A0.tp, atI_nat (j := 1) rfl, ?_⟩
        unfold spPAddX
        have odT : ∀ q ∈ [tw], ∀ o, HD q = some o → OddO o := fun q hq o e => by rw [List.mem_singleton.mp hq] at e; exact odd_pl pT e
        have b40 : (0 : Int) ≤ LM := by decide +kernel
        have et1 : et = [e0] := by
          match et, c, he0, lt, n1 with
          | [x], _, h, _, _ => cases Option.some.inj h; rfl
          | [], _, _, l, n => rw [← l] at n; exact absurd n (by decide)
          | x :: y :: r, c, _, _, _ => exact absurd (by rw [List.length_cons, List.length_cons]; omega) c
        refine ⟨tw, _, b0.x, et, b0.c, rfl, pT.x, cat_odd A0.ct odT, A0.ok, by rw [c40]; exact b40, by rw [c40]; exact Int.le_refl _, .inr (.inl ⟨by omega, ?_, fun t H' sP p2 => ⟨rfl, ⟨_, p2.pl, by rw [List.length_append]; show et.length + 1 ≠ _; omega⟩, sP⟩⟩)⟩
        rw [c40, et1]
        refine (fwE_iff (by show 1 ≤ 2; decide)).mpr ⟨fun i x y hx hy => ?_, fun x hx y hy => ?_⟩
        · match i, hx, hy with
          | 0, hx, hy =>
            cases Option.some.inj hx
            cases Option.some.inj hy
            show e0.m < LM
            have := bdB b0 (List.mem_of_getElem? h0)
            have p30 : (0 : Int) < 10 ^ 30 := by decide +kernel
            omega
          | i + 1, hx, hy => cases i <;> cases hy
        · cases Option.some.inj hx
          rcases List.mem_cons.mp hy with rfl | hy
          · rfl
          · rw [List.mem_singleton.mp hy, kc]
    rintro _ HE ⟨rfl, ⟨et2, pT2, ne2⟩, sP⟩
    have odT : ∀ q ∈ [tw], ∀ o, HD q = some o → OddO o := fun q hq o e => by rw [List.mem_singleton.mp hq] at e; exact odd_pl pT e
    obtain ⟨dx0, le0, etw0, ele0⟩ := id pT.ex
    obtain ⟨dx2, le2, etw, ele2⟩ := id pT2.ex
    have offL : ∀ {q : Addr} {xs : List V}, HD q = some (.lst xs) → HE q = some (.lst xs) := fun {q xs} e => sP _ _ e fun z => by rw [z, etw0] at e; cases e
    have n7 := pT2.ok.n7
    have n1 := pT2.ok.n1
    refine ⟨_, rfl, _, rfl, use_right9 (plat_sp pP pT twn sP) (offL erD) (fun e he => ((ed_odd (arD e he) odT).same (hid2 (M := [tw]) sP (List.mem_singleton.mpr rfl))).same hid_same) ekR bdR fun H' s' => ⟨_, rfl, iteFe rfl ?_⟩⟩
    refine ⟨_, rfl, tw, dx2, _, rfl, s' _ _ etw, tw, et2, rfl, pT2.same s', et2.length, rfl, by omega, by omega, _, rfl, lb, _, rfl, .inl (SqL.of (s' _ _ (offL ebD))), ?_⟩
    rw [List.length_map]
    exact ⟨rfl, _, rfl, iteFe (decide_eq_false fun z => ne2 (by have := V.int.inj z; omega)) ⟨⟨_, _, _, _, _, _, _, _, _, _, _, _, _, _, _, _, _, rfl⟩, s1.trans ((SameB.out sHD sP ntw).trans s')⟩⟩
  · rintro sg H' ⟨_, _⟩
    exact k H'
end
end K09
namespace K09
open PySem PySem.Spec PyProof.Rows L2 Jg
local macro_rules | `(tactic| walk_at "rd1") => `(tactic| (first
  | refine ⟨_, rfl, ?_⟩
  | refine ⟨_, _, rfl, rfl, ?_⟩
  | refine ⟨_, _, rfl, ?_⟩
  | refine ⟨rfl, ?_⟩
  | (refine ⟨show (0 : Int) < _ by omega, ?_⟩)
  | (refine ⟨Or.inl ⟨by omega, by omega⟩, ?_⟩)
  | (refine ⟨Or.inr ⟨by omega, by omega⟩, ?_⟩)
  | (refine ⟨(⟨by decide, by decide, by decide⟩ : CPow _ _), ?_⟩)
  | refine Or.inl ⟨_, rfl, ?_⟩
  | refine Or.inr ⟨_, rfl, ?_⟩
  | fail "rd"))
local macro_rules | `(tactic| walk_at "rd") => `(tactic| repeat' walk_at "rd1")
section
variable {P : Program} {w : World} {K : PySem.W.Frag} {mg : Str → Option Value} {base : Heap} {CP : Addr}
theorem sc_InvalidPlan_init : FnScope ["self", "number"] ["self", "number"] (defScope s_InvalidPlan_init) := ⟨rfl, rfl, rfl, by decide +kernel, rfl, by decide +kernel, by decide +kernel⟩
theorem ok_ipx (D : K09F.ExnQ K mg "InvalidPlan" CP "InvalidPlan.__init__" s_InvalidPlan_init "number") : ExnB P w K mg base 1 "InvalidPlan" CP (spX CP "number") := by
  obtain ⟨fI, fd, F, a, ty⟩ := D.ini
  refine ⟨D.mg_, D.ovr, fI, fd, _, F.ok sc_InvalidPlan_init (fun vs H Q E h => ?_) (fun cdv A outer s H vs Q E hr h => ?_), a, ty, F.binds (fun _ _ _ _ _ _ us hl => match us, hl with | [_, _], _ => rfl)⟩
  · obtain ⟨a, y, rfl, _⟩ := h; rfl
  · obtain ⟨a, y, rfl, ha, k⟩ := h
    exact ⟨_, (pss_one (ps_keep (pv 0) (pv 1))), _, rfl, _, rfl, a, CP, rfl, D.ovr, D.no, ha, fun dx n e => k dx n e⟩
theorem sc_is_between : FnScope ["value", "least", "most"] ["value", "least", "most"] (defScope s_is_between) := ⟨rfl, rfl, rfl, by decide +kernel, rfl, by decide +kernel, by decide +kernel⟩
theorem ok_btw9 (D : DefK K mg "is_between" s_is_between) (G_is_integer : Cal P w K mg base CX0 1 "is_integer" (K09F.spIsInt K)) : Cal P w K mg base CX0 2 "is_between" (spBtwn K) := by
  refine D.cal sc_is_between (fun _ _ _ _ _ _ us hl => match us, hl with | [_, _, _], _ => rfl) (fun vs H Q E h => ?_) fun f cdv A outer s H vs Q E hr h => ?_
  · obtain ⟨y, lo, hi, rfl, _⟩ := h; rfl
  · obtain ⟨y, lo, hi, rfl, h⟩ := h
    refine ⟨_, (pss_one (ps_ret (pe_and (pe_c G_is_integer hr (by decide) rfl (pa_cons (pv 0) pa_nil)) (pe_one (pe_chain op_le op_le (pv 1) (pv 0) (pv 2)))))), ?_⟩
    rcases h with ⟨i, rfl, q⟩ | ⟨⟨t, b1, b2, ty, k1, k2, e⟩, q⟩
    · refine ⟨_, rfl, .int i, _, true, false, rfl, .base (.int i), K09F.kii, fun _ => K09F.kib, true, rfl, iteT ?_⟩
      refine ⟨_, rfl, _, rfl, lo, i, rfl, rfl, _, rfl, ?_⟩
      by_cases c : lo ≤ i
      · rw [decide_eq_true c]
        refine iteT ⟨_, rfl, i, hi, rfl, rfl, ?_⟩
        rw [decide_eq_true c] at q
        exact q
      · rw [decide_eq_false c]
        rw [decide_eq_false c] at q
        exact iteF q
    · refine ⟨_, rfl, y, t, b1, b2, rfl, ty H (.refl H), k1, k2, _, rfl, ?_⟩
      rw [e]
      exact iteF q
end
section
variable {P : Program} {w : World} {K : PySem.W.Frag} {mg : Str → Option Value} {base : Heap} {C PC CE : Addr}
theorem ok_pgetx (D : MetK K PC "__getitem__" "Plan.__getitem__" s_Plan_getitem) (PT : PTx K mg PC) (M_check : Met P w K mg base (L2.CX P w) 4 PC "_check" (spPCheck K PC C CE)) : Met P w K mg base (L2.CX P w) 5 PC "__getitem__" (spPGet PC C) := by
  refine D.metX sc_Plan_getitem (fun _ _ _ _ _ _ us hl => match us, hl with | [_, _], _ => rfl) (fun vs H Q E h => ?_) fun f cdv A outer s H vs Q E hr h => ?_
  · unfold spPGet at h; obtain ⟨p, es, n, e, rfl, _⟩ := h; rfl
  · unfold spPGet at h; obtain ⟨p, es, n, e, rfl, pl, he, k⟩ := h
    obtain ⟨⟨dx, l, e1, e2⟩, at_, ok⟩ := id pl
    refine ⟨_, (pss_cons (ps_expr (pe_mS M_check PT.cl (takes_of rfl rfl rfl rfl) hr (by decide) (pv 0) (pa_cons (pv 1) pa_nil)))
      (pss_one (ps_ret (pe_ix (r := rIxL K) ix_list (pe_fld (pv 0) rfl) (pv 1) (fun _ _ => rfl))))), ?_⟩
    refine ⟨_, rfl, p, dx, _, rfl, e1, get_eno _ (by decide +kernel), _, rfl, p, es, .int n, rfl, pl, .inl ⟨n, rfl, (List.getElem?_eq_some_iff.mp he).1, ?_⟩⟩
    exact ⟨_, rfl, p, PC, dx, _, .ref l, rfl, e1, PT.cl, PT.ne, get_e l, _, rfl, l, _, _, _, rfl, rfl, SqL.of e2, atI_nat (j := n) (ed_get he), k⟩
end
end K09
namespace K09
open PySem PySem.Spec PyProof.Rows L2 Jg
local macro_rules | `(tactic| walk_at "rd1") => `(tactic| (first
  | refine ⟨_, rfl, ?_⟩
  | refine ⟨_, _, rfl, rfl, ?_⟩
  | refine ⟨_, _, rfl, ?_⟩
  | refine ⟨rfl, ?_⟩
  | (refine ⟨show (0 : Int) < _ by omega, ?_⟩)
  | (refine ⟨Or.inl ⟨by omega, by omega⟩, ?_⟩)
  | (refine ⟨Or.inr ⟨by omega, by omega⟩, ?_⟩)
  | (refine ⟨(⟨by decide, by decide, by decide⟩ : CPow _ _), ?_⟩)
  | refine Or.inl ⟨_, rfl, ?_⟩
  | refine Or.inr ⟨_, rfl, ?_⟩
  | fail "rd"))
local macro_rules | `(tactic| walk_at "rd") => `(tactic| repeat' walk_at "rd1")
open K09C (StA SameB Wd hid hid_in hid_get hid_same hid_mut)
theorem len_cinit {P : Program} {w : World} {K : PySem.W.Frag} {C CI : Addr} : ∀ vs H Q E, K09C.spCInit P w K C CI vs H Q E → vs.length = ["self", "roles", "vouchers", "needed", "signers"].length := fun vs H Q E h => by
  obtain ⟨x, dx, r, v, n, s, H0, rfl, _⟩ := h; rfl
theorem mak2 {P : Program} {w : World} {K : PySem.W.Frag} {mg : Str → Option Value} {base : Heap} {C CI : Addr} (D : IniK K C "Contents.__init__" K09C.s_Contents_init kws_NN) (m : mg "Contents" = some (.ref C)) (mk : PySem.W.makesIn K C = true) (kp : PySem.W.keepIn K (.ref C) = true)
    (body : ∀ f, BodyX P w K mg base ["self", "roles", "vouchers", "needed", "signers", "part", "role", "accepted", "used"] "Contents.__init__" K09C.s_Contents_init f 6 (K09C.spCInit P w K C CI)) : MakN P w K mg base (L2.CX P w) 7 "Contents" C 2 ["needed", "signers"] (fun vs zs => vs ++ zs) (K09C.spCInit P w K C CI) :=
  D.makN m mk kp K09C.sc_Contents_init len_cinit 2 [] (fun us mv ws => us ++ ws) (fun z => nomatch z) (fun q hq => nomatch hq) (fun r1 _ r3 => r1.append r3)
    (fun D doc pm an cdv ct us mv ws h1 h2 h3 => match us, mv, ws, h1, h2, h3 with | [_, _, _], [], [_, _], _, _, _ => rfl) body
theorem fin {P : Program} {w : World} {K : PySem.W.Frag} {mg : Str → Option Value} {fa C PC CI CO CM CE CP CG : Addr} (hfa : mg "law" = some (.ref fa)) (TC : K09C.Txt K mg) (J : K09C.CTx K mg C) (TP : TxP K mg) (PT : PTx K mg PC) (PE2 : PEx K PC) (W8 : TstQ K PC) (W6 : PGx K PC) (W9 : TstD K PC CE CP CO) (W7 : TstG K mg CM CG) (m1 : PySem.W.makesIn K C = true) (m2 : PySem.W.keepIn K (.ref C) = true) (m9 : PySem.W.makesIn K PC = true) (m10 : PySem.W.keepIn K (.ref PC) = true) (XI : K09F.ExnQ K mg "InvalidContents" CI "InvalidContents.__init__" K09C.s_InvalidContents_init "part") (XO : K09F.ExnQ K mg "LimitExceeded" CO "LimitExceeded.__init__" K09F.s_LimitExceeded_init "limit") (XM : K09F.ExnQ K mg "InvalidMoment" CM "InvalidMoment.__init__" K09F.s_InvalidMoment_init "value") (XE : K09F.ExnQ K mg "UnknownEdition" CE "UnknownEdition.__init__" s_UnknownEdition_init "number") (XP : K09F.ExnQ K mg "InvalidPlan" CP "InvalidPlan.__init__" s_InvalidPlan_init "number") (NN : IniK K C "Contents.__init__" K09C.s_Contents_init kws_NN) (d1 : DefK K mg "is_integer" K09C.s_is_integer) (d2 : DefK K mg "is_word" K09C.s_is_word) (d3 : DefK K mg "are_different_keys" K09C.s_are_different_keys) (d4 : DefK K mg "_is_use" K09C.s_is_use) (d5 : DefK K mg "_are_roles" K09C.s_are_roles) (d6 : DefK K mg "_wrong_part" K09C.s_wrong_part) (d7 : DefK K mg "_in_order" K09C.s_in_order) (d8 : PrpK K C "roles" "Contents.roles" K09C.s_Contents_roles) (d9 : DefK K mg "_law_stream" K09C.s_law_stream) (d10 : DefK K mg "_law_draw" K09C.s_law_draw) (d11 : DefK K mg "_law_choose" K09C.s_law_choose) (d12 : DefK K mg "_law_some" K09C.s_law_some) (d13 : DefK K mg "_law_words" K09C.s_law_words) (d14 : DefK K mg "_law_told" K09C.s_law_told) (d15 : DefK K mg "_law_turned" K09C.s_law_turned) (d16 : DefK K mg "_law_next" K09C.s_law_next) (d17 : DefK K mg "_law_tolds" K09C.s_law_tolds) (d18 : DefK K mg "_law_contents" K09C.s_law_contents) (d19 : MetK K C "__eq__" "Contents.__eq__" K09C.s_Contents_eq) (d20 : DefK K mg "is_between" s_is_between) (d21 : DefK K mg "is_moment" s_is_moment) (d22 : DefK K mg "is_index" s_is_index) (d23 : DefK K mg "is_tuple_of" s_is_tuple_of) (d24 : DefK K mg "_is_edition" s_is_edition) (d25 : DefK K mg "_first_wrong" s_first_wrong) (d26 : MetK K PC "__init__" "Plan.__init__" s_Plan_init) (d27 : MetK K PC "__len__" "Plan.__len__" s_Plan_len) (d28 : MetK K PC "_check" "Plan._check" s_Plan_check) (d29 : MetK K PC "moment_of" "Plan.moment_of" s_Plan_moment_of) (d30 : MetK K PC "contents_of" "Plan.contents_of" s_Plan_contents_of) (d31 : MetK K PC "moments" "Plan.moments" s_Plan_moments) (d32 : MetK K PC "__getitem__" "Plan.__getitem__" s_Plan_getitem) (d33 : MetK K PC "__setitem__" "Plan.__setitem__" s_Plan_setitem) (d34 : MetK K PC "__eq__" "Plan.__eq__" s_Plan_eq) (d35 : MetK K PC "current" "Plan.current" s_Plan_current) (d36 : MetK K PC "add" "Plan.add" s_Plan_add) (d37 : MetK K PC "drop" "Plan.drop" s_Plan_drop) (d38 : MetK K PC "twin" "Plan.twin" s_Plan_twin) (d39 : MetK K PC "cut" "Plan.cut" s_Plan_cut) (d40 : DefK K mg "_law_moments" s_law_moments) (d41 : DefK K mg "_law_is_right" s_law_is_right) (d42 : DefK K mg "_law_good" s_law_good) (d43 : DefK K mg "_law_step" s_law_step) (d44 : DefK K mg "_law_done" s_law_done) (d45 : DefK K mg "_law_current_refused" s_law_current_refused) (d46 : DefK K mg "law" s_law) :
    ∃ fd : FuncData, (∀ (s : Shared) (v : Value), BindsTo s fd ⟨[v], []⟩ [("script", v)]) ∧ ∀ base : Heap, K.In base → base.Ns mainGlobals mg → FnG P w K mg base CX0 12 fa fd ["script"] (spLaw K) := by
  obtain ⟨f, fd, F, m⟩ := d46.ex
  rw [hfa] at m
  cases m
  refine ⟨fd, ?_, fun base _ _ => ?_⟩
  · obtain ⟨_, _, _, _, _, _, _, _, _, rfl, _, _⟩ := F.ex
    exact fun s v => .of_eq rfl
  · have g1 := K09C.ok_is_integer (P := P) (w := w) (base := base)  d1 TC
    have g2 := K09C.ok_is_word (P := P) (w := w) (base := base)  d2 TC
    have g3 := K09C.ok_keys (P := P) (w := w) (base := base)  d3 TC g2
    have g4 := K09C.ok_order (P := P) (w := w) (base := base)  d7 TC
    have g5 := K09C.ok_use (P := P) (w := w) (base := base)  d4 TC g2 g3
    have g6 := K09C.ok_roles (P := P) (w := w) (base := base)  d5 TC g2 g5
    have g7 := K09C.ok_wrong (P := P) (w := w) (base := base)  d6 TC g1 g3 g6
    have XIc : K09C.ExnQ K mg "InvalidContents" CI "InvalidContents.__init__" K09C.s_InvalidContents_init "part" := ⟨XI.mg_, XI.ovr, XI.xk, XI.no, XI.ini, XI.te⟩
    have g9 := K09C.ok_cxinit (P := P) (w := w) (base := base)  XIc
    have M2 := mak2 (CI := CI) NN J.cC m1 m2 (K09C.body_cinit (P := P) (w := w) (base := base) TC J (by assumption) (by assumption) (by assumption))
    have g12 := K09C.ok_croles (P := P) (w := w) (base := base)  d8 TC J
    have g13 := K09C.ok_stream (P := P) (w := w) (base := base)  d9 TC
    have g14 := K09C.ok_draw (P := P) (w := w) (base := base)  d10
    have g15 := K09C.ok_choose (P := P) (w := w) (base := base)  d11 TC g14
    have g16 := K09C.ok_words (P := P) (w := w) (base := base)  d13 TC g14 g15
    have gdr : Cal P w K mg base CX0 1 "_law_draw" K09C.spDr := K09C.drI (by assumption)
    have gch : Cal P w K mg base CX0 2 "_law_choose" (K09C.spCh K) := K09C.chI (by assumption)
    have g19 := K09C.ok_some (P := P) (w := w) (base := base)  d12 gdr
    have g20 := K09C.ok_told (P := P) (w := w) (base := base)  d14 gdr gch g19
    have gtI : Cal P w K mg base CX0 3 "_law_told" (K09C.spToldI K) := by unfold K09C.spToldI; assumption
    have g22 := K09C.ok_turned (P := P) (w := w) (base := base)  d15
    have g23 := K09C.ok_next (P := P) (w := w) (base := base)  d16 TC gdr gch g19 g22
    have g24 := K09C.ok_tolds (P := P) (w := w) (base := base)  d17 TC gdr gtI g23
    have g25 := K09C.ok_con (P := P) (w := w) (base := base)  d18 TC J M2
    have g26 := K09C.ok_ceq (P := P) (w := w) (base := base)  d19 TC J
    have g27 := ok_btw9 (P := P) (w := w) (base := base)  d20 g1
    have g28 := K09F.ok_linit (P := P) (w := w) (base := base)  XO
    have g29 := K09F.ok_minit (P := P) (w := w) (base := base)  XM
    have g30 := ok_ipx (P := P) (w := w) (base := base)  XP
    have g31 := ok_is_moment (P := P) (w := w) (base := base)  d21 TP g27
    have g32 := ok_is_index (P := P) (w := w) (base := base)  d22 g27
    have g33 := ok_is_tuple_of (P := P) (w := w) (base := base)  d23 TP
    have g34 := ok_is_edition (P := P) (w := w) (base := base)  d24 TP J g33 g31
    have g35 := ok_first_wrong (P := P) (w := w) (base := base)  d25 TP J g34 g12
    have g36 := ok_ueinit (P := P) (w := w) (base := base)  XE
    have g37 := ok_pinit (P := P) (w := w) (base := base)  d26 TP PT g35
    have MP : Mak P w K mg base CX0 6 "Plan" PC (spPInit PC C) := ⟨PT.cPlan, m9, m10, by assumption⟩
    have g39 := ok_plen (P := P) (w := w) (base := base) (C := C) d27 TP PT
    have g40 := ok_pcheck (P := P) (w := w) (base := base) (C := C) d28 TP PT g32 g36
    have g41 := ok_pmo (P := P) (w := w) (base := base) (C := C) d29 TP PT g40
    have g42 := ok_pco (P := P) (w := w) (base := base) (C := C) d30 TP PT g40
    have g43 := ok_pmoms (P := P) (w := w) (base := base) (C := C) d31 PT
    have g44 := ok_peqb (P := P) (w := w) (base := base)  d34 TP PT PE2 g26
    have g45 := ok_fwb (P := P) (w := w) (base := base)  d25 TP J g34 g12
    have g46 := ok_paddx (P := P) (w := w) (base := base)  d36 TP PT g45 g28 g30
    have g47 := ok_pdropx (P := P) (w := w) (base := base) (C := C) d37 TP PT g36
    have g48 := ok_pgetx (P := P) (w := w) (base := base) (C := C) d32 PT g40
    have g49 := ok_psetx (P := P) (w := w) (base := base)  d33 TP PT g40 g45 g30
    have g50 := ok_cur (P := P) (w := w) (base := base) (C := C) d35 TP PT g31 g29
    have g51 := ok_twin (P := P) (w := w) (base := base)  d38 PT MP
    have g52 := ok_cut (P := P) (w := w) (base := base) (C := C) d39 PT g40 MP
    have g53 := ok_mom9 (P := P) (w := w) (base := base)  d40 TP gdr
    have g54 := ok_good (P := P) (w := w) (base := base)  d42 TP J g12
    have g55 := ok_step (P := P) (w := w) (base := base)  d43 TP gdr gch g54
    have g56 := ok_done (P := P) (w := w) (base := base) (C := C) d44 PT W9 XE XP XO g46 g47 g49
    have PG9 : ∀ f, PySem.W.findIn K (.ref PC) "__getitem__" = some (some (.ref f)) → PySem.W.fnIn K f = true := W6.fn
    have g58 := ok_right9 (P := P) (w := w) (base := base)  d41 TP J PT PE2 PG9 g39 g43 g48 g41 g42 g50 g26 g44 MP
    have g59 := ok_crf (P := P) (w := w) (base := base) (C := C) d45 TP PT XM W7 g50
    exact fnG_of F sc_law (fun vs H Q E h => by obtain ⟨a, ns, rfl, _⟩ := h; rfl) fun cdv A outer s H vs Q E g hr h =>
      let ⟨t, a, q⟩ := body_law TP J PT PE2 W8 g13 gdr gch g16 gtI g24 g25 g53 MP g51 g52 g39 g47 g46 g26 g44 g55 g56 g58 g59 fa cdv A outer s H vs Q E (guards_deeper g) hr h
      ⟨t, a.nox, q⟩
end K09
theorem PySem.Challenge.cw_gaplesskeys_k09_plans_edited_holds : PySem.Challenge.rw_gaplesskeys_k09_plans_edited.Holds :=
  K09.head0 (@K09.fin)
#print axioms PySem.Challenge.cw_gaplesskeys_k09_plans_edited_holds
