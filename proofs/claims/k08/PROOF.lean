import PyProof.Rows.All
import Wide.All
import OpenK.AllK
import Wide.FinOn
import HandS.ForMost
import HandS.IsInst
import HandS.ClsMeth
import HandS.Property
import HandS.Strs
import HandS.Wide
import PyProof.LongRange
import HandS.Exc
import PyProof.Rows.NestShow
import HandS.SetFor
import HandS.ExcInit
import HandS.ExcField
import HandS.ExcOwn
import HandS.WordsExc
import KE.KExcIs
import HandS.Small
import PyProof.Rows.Range3
import KE.KExcInit
import HandS.MakeKwOnly
import PyProof.ExcBaseAll.LookupError
import PyProof.ExcBaseAll.ValueError
import PyProof.ExcBaseAll.OverflowError
import PyProof.ExcBaseAll.RuntimeError
import PyProof.InstEq
import PyProof.EqKinds
import KE.KEqDict
import PyProof.CallStr
import HandS.More
import HandS.Replace
import HandS.Text
import PyProof.ListStr
import PyProof.StrOps2
import HandS.Comp
import PyProof.Rows.SortStr
import PyProof.Rows.StrMeet
import HandS.List
import HandS.Dict
import HandS.DictEq
import PyProof.SumAny
import KE.SortData
import PyProof.ReprRoads
import HandS.Style
import PyProof.ReprBulk
import HandS.NoneIn
import HandS.Iter
import HandS.Walk
import HandS.WordsDict
import HandS.ExcIs
import HandS.Codes
import HandS.Lambda
import HandS.Zip
import HandS.Finally
import HandS.Conv
import HandS.DeepEq
import HandS.FStr
import HandS.StrSplit
import HandS.Steps
import HandS.StrMore
import KE.RegKIsAll
import HandS.EndTab
import KE.KNestM
import PySem.Challenge.RW_gaplesskeys_k08_contents_taken_and_chang
set_option Elab.async false
set_option linter.all false
set_option maxRecDepth 100000
set_option maxHeartbeats 4000000
/-! own rules: own operators, long ranges, a class held by a local name, a classmethod without arguments -/
namespace Jg
open PySem PySem.Spec PyProof.Rows L2

section
variable {X : Cx} {CX : CXT} {n k : Nat} {C f : Addr} {fd : FuncData} {ps : List Str} {sp : Sp} {E : XK} {dvs : List V} {ds : List Value}
/-- what an own method must be to serve an operator -/
structure Own (K : PySem.W.Frag) (C : Addr) (m : Str) (f : Addr) : Prop where
  at_ : PySem.W.findIn K (.ref C) m = some (some (.ref f))
  fn : PySem.W.isFn K (.ref f) = true
theorem back_of {pins : List (Addr × Obj)} {σ : L2.St} {Q : VK} {v : Value} {s : Shared} (h : EP X pins σ Q v s) : PySem.W.CmpBack (EP X pins σ Q) v s := by
  obtain ⟨x, H', I, r, q⟩ := h
  cases v <;> first
    | exact ⟨x, H', I, r, q⟩
    | (exfalso; cases x <;> simp [L2.RelV] at r)
/-- x == y, x < y .. by the own method of x -/
def rOwn (K : PySem.W.Frag) (C : Addr) (sp : Sp) (E : XK) : R2 := fun x y H Q => ∃ a dx fs t, x = .ref a ∧ H a = some (.ins C dx fs) ∧ TyX K H y t ∧ PySem.W.notFirst K C t = true ∧ sp [.ref a, y] H Q E
theorem op_own {op : CmpOp} (F : FnOk X.prog X.w X.K X.mg X.base CX n f fd ps sp) (hr : Room n X.A) (o : Own X.K C (cmpInfo op).2.1 f) (hb : Binds X.K fd ps []) (hx : Passes CX X E)
    (hc : ∀ v u, compareOp op v u = richCompare op v u := by intro _ _; rfl) : OpR X (compareOp op) (rOwn X.K C sp E) := by
  intro pins s σ H x y v u Q I rx ry h
  obtain ⟨a, dx, fs, t, rfl, ha, ty, nf, q⟩ := h
  cases rx
  obtain ⟨mA, J, _⟩ := ins_get I.hok ha
  obtain ⟨od, J, _⟩ := J.look
  obtain ⟨m, hF⟩ := I.fr
  obtain ⟨P, Z, p, _⟩ := kit_of I ry ty
  rw [hc]
  refine PySem.W.cmp_K (op := op) (tb := t) hr.units0 hF I.ok.mod.kin J (Z.ty _ _ I.kIn p) nf o.at_ o.fn ?_
  exact wpAny_mono (run_fn (us := [.ref a, u]) (vs := [.ref a, y]) F hr hb .nil hx I (.cons rfl (.cons ry .nil)) q) (fun _ _ z => back_of z) fun _ _ z => z
/-- x & y, x + y .. of two instances of the class -/
def rOwnB (C : Addr) (sp : Sp) (E : XK) : R2 := fun x y H Q => ∃ a b dx fs dy gs, x = .ref a ∧ y = .ref b ∧ H a = some (.ins C dx fs) ∧ H b = some (.ins C dy gs) ∧ sp [.ref a, .ref b] H Q E
theorem op_ownB {op : Operator} (F : FnOk X.prog X.w X.K X.mg X.base CX n f fd ps sp) (hr : Room n X.A) (o : Own X.K C (PySem.dunder op.info.2) f) (hc : PySem.W.selfFirst X.K C = true) (hb : Binds X.K fd ps []) (hx : Passes CX X E) :
    OpR X (binaryOp op) (rOwnB C sp E) := by
  intro pins s σ H x y v u Q I rx ry h
  obtain ⟨a, b, dx, fs, dy, gs, rfl, rfl, ha, hb', q⟩ := h
  cases rx
  cases ry
  obtain ⟨mA, J, _⟩ := ins_get I.hok ha
  obtain ⟨od, J, _⟩ := J.look
  obtain ⟨mB, J', _⟩ := ins_get I.hok hb'
  obtain ⟨od', J', _⟩ := J'.look
  obtain ⟨m, hF⟩ := I.fr
  refine PySem.W.binop_K (op := op) hF I.ok.mod.kin J J'.type hc o.at_ o.fn ?_
  exact wpAny_mono (run_fn (us := [.ref a, .ref b]) (vs := [.ref a, .ref b]) F hr hb .nil hx I (.cons rfl (.cons rfl .nil)) q) (fun _ _ z => back_of z) fun _ _ z => z
/-- y in x by the own method of x -/
def rOwnIn (C : Addr) (sp : Sp) (E : XK) : R2 := fun y x H Q => ∃ a dx fs, x = .ref a ∧ H a = some (.ins C dx fs) ∧ sp [.ref a, y] H (fun v H' => ∃ b, v = .bl b ∧ Q (.bl b) H') E
def rOwnNotIn (C : Addr) (sp : Sp) (E : XK) : R2 := fun y x H Q => ∃ a dx fs, x = .ref a ∧ H a = some (.ins C dx fs) ∧ sp [.ref a, y] H (fun v H' => ∃ b, v = .bl b ∧ Q (.bl (!b)) H') E
theorem op_ownIn (F : FnOk X.prog X.w X.K X.mg X.base CX n f fd ps sp) (hr : Room n X.A) (o : Own X.K C "__contains__" f) (hb : Binds X.K fd ps []) (hx : Passes CX X E) :
    OpR X (compareOp .In) (rOwnIn C sp E) := by
  intro pins s σ H y x u v Q I ry rx h
  obtain ⟨a, dx, fs, rfl, ha, q⟩ := h
  cases rx
  obtain ⟨mA, J, _⟩ := ins_get I.hok ha
  obtain ⟨od, J, _⟩ := J.look
  obtain ⟨m, hF⟩ := I.fr
  refine PySem.W.in_K hF I.ok.mod.kin J o.at_ o.fn ?_
  refine wpAny_mono (run_fn (us := [.ref a, u]) (vs := [.ref a, y]) F hr hb .nil hx I (.cons rfl (.cons ry .nil)) q) (fun r s' z => ?_) fun _ _ z => z
  obtain ⟨w', H', I', rw', b, rfl, q'⟩ := z
  cases (show r = Value.bool b from rw')
  exact wpAny_truthy_bool ⟨.bl _, H', I', rfl, q'⟩
theorem op_ownNotIn (F : FnOk X.prog X.w X.K X.mg X.base CX n f fd ps sp) (hr : Room n X.A) (o : Own X.K C "__contains__" f) (hb : Binds X.K fd ps []) (hx : Passes CX X E) :
    OpR X (compareOp .NotIn) (rOwnNotIn C sp E) := by
  intro pins s σ H y x u v Q I ry rx h
  obtain ⟨a, dx, fs, rfl, ha, q⟩ := h
  cases rx
  obtain ⟨mA, J, _⟩ := ins_get I.hok ha
  obtain ⟨od, J, _⟩ := J.look
  obtain ⟨m, hF⟩ := I.fr
  refine PySem.W.notIn_K hF I.ok.mod.kin J o.at_ o.fn ?_
  refine wpAny_mono (run_fn (us := [.ref a, u]) (vs := [.ref a, y]) F hr hb .nil hx I (.cons rfl (.cons ry .nil)) q) (fun r s' z => ?_) fun _ _ z => z
  obtain ⟨w', H', I', rw', b, rfl, q'⟩ := z
  cases (show r = Value.bool b from rw')
  exact wpAny_truthy_bool ⟨.bl _, H', I', rfl, q'⟩
end

/-! ### cls(e, ..), cls a local name that holds the class -/
def tMakeL (i : Nat) (C : Addr) (sp : Sp) (dvs : List V) (E : XK) (t : TA) : TE := fun σ H Q => σ[i]? = some (some (.ref C)) ∧ tMake C sp dvs E t σ H Q
section
variable {X : Cx} {CX : CXT} {k i : Nat} {C f : Addr} {fd : FuncData} {ps : List Str} {sp : Sp} {dvs : List V} {ds : List Value} {E : XK} {x : Str} {p pos : Pos} {e : Expr} {es : List Expr} {t : TA}
theorem pe_makeL (M : Mk X.K C f) (F : FnOk X.prog X.w X.K X.mg X.base CX k f fd ps sp) (hr : Room (k + 1) X.A) (hN : X.N[i]? = some x) (hv : Vis X.env.scope x) (hb : Binds X.K fd ps ds) (hd : Vals dvs ds) (hx : Passes CX X E) (ha : PA X (e :: es) t)
    (hdb : (x == ("__debug__" : Str)) = false := by decide) (hcd : (x == ("__classdict__" : Str)) = false := by decide)
    (he : starEach (e :: es) X.env = (false, eval e X.env) :: starEach es X.env := by rfl) (hpl : (backTo pos (starEach es X.env)).any (·.1) = false := by rfl) : PE X (.Call (.Name x p) (e :: es) [] pos) (tMakeL i C sp dvs E t) := by
  refine ⟨fun pins s σ H Q I h => ?_⟩
  obtain ⟨hs, ht⟩ := h
  refine wpAny_Call_Name_kw (thn ((pe_var (pos := p) hN hv hdb hcd).run pins s σ H (fun v H1 => v = .ref C ∧ H1 = H) I ⟨.ref C, hs, rfl, rfl⟩) fun u s1 ⟨v, H1, I1, r1, q1⟩ => ?_)
  obtain ⟨rfl, rfl⟩ := q1
  cases r1
  refine PySem.W.callWith_K (h₀ := X.base) I.ok.mod.kin M.kp (thn (ha.run pos pins s1 σ _ _ I1 ht) fun us s2 ⟨vs, H2, I2, r, q⟩ => ⟨I2.kIn, ?_⟩) he hpl
  exact run_make M F hr hb hd hx I2 r q
end

/-! ### C.m() , m a classmethod, no argument -/
section
open ClX
variable {X : Cx} {CX : CXT} {k : Nat} {C p g : Addr} {mc : Value} {sp : Sp} {E : XK} {o : Expr} {m : Str} {pos apos : Pos} {ta : TE} {pl : Sem Bool}
theorem pe_cmeth0 (he : PE X o ta) (r : CRead X.K C mc) (c : CMet X.K C mc m p g) (F : FnR X.prog X.w X.K X.mg X.base CX k g sp) (hr : Room k X.A) (hx : Passes CX X E)
    (ht : eval (.Call (.Attribute o m apos) [] [] pos) X.env = (do
      let ov ← eval o X.env
      standAt apos.atName
      let (f, first) ← holding [ov] (getMethod ov m pl)
      callWith pos f first (backTo pos (starEach [] X.env)) (backToKw pos (keywordEach [] X.env))) := by rfl) :
    PE X (.Call (.Attribute o m apos) [] [] pos) (tCMeth C sp E ta tNil) := by
  refine ⟨fun pins s σ H Q I h => ?_⟩
  refine PySem.W.methodCall_KW (pl := pl) (thn (he.run pins s σ H _ I h) fun u s1 ⟨x, H1, I1, rx, ex, q⟩ => ?_) ht
  subst ex
  obtain rfl : u = Value.ref C := rx
  refine getmethcm_ok I1 r c fun s2 I2 => ?_
  refine PySem.W.callWith_M0 (K := X.K) (first := []) ⟨pin_at I2, I2.kIn⟩ c.fi ?_
  exact run_cm F hr hx I2 .nil q
end

/-! ### range(a, b) of any size -/
theorem turn_long {P : Program} {w : World} {K : PySem.W.Frag} {tg : Expr} (it : Addr) (lo : Int) (n : Nat) : Turn P w K tg (Itr lo n) [it] it (fun i h => IsLongIter h it (lo + (i : Nat) * 1) ((n : Int) - (i : Nat)) 1) where
  mem := by simp
  obj := fun i h st b hb => by
    have e : b = it := by simpa using hb
    subst e
    exact ⟨_, st, fun v z => by
      have z' : Data.fields _ = Data.cell v := z
      cases z'⟩
  keep := fun i h h' st k => k it (by simp) _ st
  item := by
    intro X hP hw hK hc i pins s σ H E I hf st hg
    subst hP hw hK
    obtain ⟨f0, f1, f2, f3, f4, f5⟩ := hf it (by simp)
    have W := Walks.longrange (prog := X.prog) (w := X.w) (I.ok.hd hc) it lo 1 n
    refine W.item i s _ _ hg st fun v h' tk hv st' kk => ?_
    obtain ⟨t, rfl⟩ := hv
    have I1 : Inv X pins σ H { s with heap := h', toks := tk } := I.turned (fun b o hb e => kk b o (by simpa using hb) e) f0 f1 f3 f4 f5
    refine ⟨_, rfl, go_of (s := { s with heap := h', toks := tk }) (n := "longrange_iterator") st' rfl rfl (by decide) ⟨.int (lo + i), H, I1, ⟨t, ?_⟩, ⟨rfl, rfl⟩, st', fun b hb => (hf b hb).1⟩⟩
    rw [Int.mul_one]
  done := by
    intro X hP hw hK hc i pins s σ H E I hf st hg
    subst hP hw hK
    obtain ⟨f0, f1, f2, f3, f4, f5⟩ := hf it (by simp)
    exact wpAny_pyNext_long_end (I.ok.hd hc) st (by have : n ≤ i := hg; omega) fun h' eb => ⟨rfl, I.turned (t' := s.toks) (fun b o hb e => eb b o hb e) f0 f1 f3 f4 f5⟩
  self := fun _ _ _ _ _ st h => wpAny_pyIter_longiter st h
section
variable {X : Cx} {tg : Expr}
theorem rsize_nat (lo hi : Int) : (((hi - lo).toNat : Nat) : Int) = Builtin.Range.rangeSize lo hi 1 := by
  rw [rangeSize_one]; split <;> omega
theorem rangeW_it {pins : List (Addr × Obj)} {σ : L2.St} {H : Hp} {s : Shared} {R : It → Hp → Prop} {E : Value → Shared → Prop} {lo hi : Int} {t u v : Tok} {tk : Nat} (I : Inv X pins σ H s)
    (q : R (Itr lo (hi - lo).toNat) H) : wpAny (model X.prog X.w) X.A (pyIter (.ref s.heap.objs.size)) (PIE X pins σ tg R) E { s with heap := s.heap.push { cls := .type "range", data := .fields #[.int lo t, .int hi u, .int 1 v] }, toks := tk } := by
  have I1 : Inv X pins σ H { s with heap := s.heap.push { cls := .type "range", data := .fields #[.int lo t, .int hi u, .int 1 v] }, toks := tk } := I.kept fun b o e => Heap.get?_push_of_some _ e
  cases hs : Builtin.Range.small lo hi 1 with
  | true =>
    refine wpAny_pyIter_range (IsRange.new ..) hs ?_
    refine ⟨(s.heap.push { cls := .type "range", data := .fields #[.int lo t, .int hi u, .int 1 v] }).objs.size, [(s.heap.push { cls := .type "range", data := .fields #[.int lo t, .int hi u, .int 1 v] }).objs.size], _, _, H, rfl,
      I1.kept (t' := tk) fun b o e => Heap.get?_push_of_some _ e, turn_range _ lo (hi - lo).toNat, ?_, fun b hb => ?_, q⟩
    · have e1 : lo + ((0 : Nat) : Int) * 1 = lo := by simp
      have e2 : (((hi - lo).toNat : Nat) : Int) - ((0 : Nat) : Int) = Builtin.Range.rangeSize lo hi 1 := by rw [rsize_nat]; simp
      show IsRangeIter _ _ (lo + ((0 : Nat) : Int) * 1) ((((hi - lo).toNat : Nat) : Int) - ((0 : Nat) : Int)) 1
      rw [e1, e2]
      exact Heap.get?_push_size _ rfl
    · have e : b = (s.heap.push { cls := .type "range", data := .fields #[.int lo t, .int hi u, .int 1 v] }).objs.size := by simpa using hb
      subst e
      exact I1.fpOk (Nat.le_refl _) (I1.hok.fresh (Nat.le_refl _))
  | false =>
    refine wpAny_pyIter_longrange (IsRange.new ..) hs ?_
    refine ⟨(s.heap.push { cls := .type "range", data := .fields #[.int lo t, .int hi u, .int 1 v] }).objs.size, [(s.heap.push { cls := .type "range", data := .fields #[.int lo t, .int hi u, .int 1 v] }).objs.size], _, _, H, rfl,
      I1.kept (t' := tk) fun b o e => Heap.get?_push_of_some _ e, turn_long _ lo (hi - lo).toNat, ?_, fun b hb => ?_, q⟩
    · have e1 : lo + ((0 : Nat) : Int) * 1 = lo := by simp
      have e2 : (((hi - lo).toNat : Nat) : Int) - ((0 : Nat) : Int) = Builtin.Range.rangeSize lo hi 1 := by rw [rsize_nat]; simp
      show IsLongIter _ _ (lo + ((0 : Nat) : Int) * 1) ((((hi - lo).toNat : Nat) : Int) - ((0 : Nat) : Int)) 1
      rw [e1, e2]
      exact Heap.get?_push_size _ rfl
    · have e : b = (s.heap.push { cls := .type "range", data := .fields #[.int lo t, .int hi u, .int 1 v] }).objs.size := by simpa using hb
      subst e
      exact I1.fpOk (Nat.le_refl _) (I1.hok.fresh (Nat.le_refl _))
def iRng2W (ta : TA) : TI := fun σ H R => ta σ H fun vs H1 => ∃ i j : Int, vs = [.int i, .int j] ∧ R (Itr i (j - i).toNat) H1
theorem pi_range2W {a b : Expr} {ta : TA} {p pos : Pos} (hg : Gl X "range") (hm : X.mg "range" = none) (ha : PA X [a, b] ta) (hs : starEach [a, b] X.env = [(false, eval a X.env), (false, eval b X.env)] := by rfl) (hs2 : starEach [b] X.env = [(false, eval b X.env)] := by rfl) :
    PI X tg (.Call (.Name "range" p) [a, b] [] pos) (iRng2W ta) := by
  refine ⟨fun pins s σ H R I h => ?_⟩
  refine Call_ (ld_blt I hg hm boot_range (PyProof.Rows.callWith_type1 (thn (ha.run pos pins s σ H _ I h) fun us s1 ⟨vs, H1, I1, r1, q1⟩ => ?_) (by rw [hs, hs2]) (by rw [hs2]; rfl)))
  obtain ⟨i, j, e, q⟩ := q1
  subst e
  cases r1 with
  | cons r rr =>
    cases rr with
    | cons r' rr =>
      cases rr
      obtain ⟨t, rfl⟩ := r
      obtain ⟨t', rfl⟩ := r'
      exact call_range_2 (rangeW_it I1 q)
end
end Jg

/-! defs that are called where no repr is under way, repr of data, and the law's end over such a def -/
namespace Jg
open PySem PySem.Spec PyProof.Rows L2

/-- a def's promise where no repr is under way -/
structure FnG (P : Program) (w : World) (K : PySem.W.Frag) (mg : Str → Option Value) (base : Heap) (CX : CXT) (k : Nat) (f : Addr) (fd : FuncData) (ps : List Str) (sp : Sp) : Prop where
  len : ∀ vs H Q E, sp vs H Q E → vs.length = ps.length
  run : ∀ (A : Around), A.guards = some [] → ∀ (outer : List Env) (s : Shared) (H : Hp) (args : Args) (us : List Value) (vs : List V) (Q : VK) (E : XK), Room k A → Env0 P w K mg base A outer s H → BindsTo s fd args (ps.zip us) → Vals vs us → sp vs H Q E →
    codeAny (model P w) A (.call (.ref f) args) (CR CX outer P w H s Q E) s
theorem FnG.of {P : Program} {w : World} {K : PySem.W.Frag} {mg : Str → Option Value} {base : Heap} {CX : CXT} {k : Nat} {f : Addr} {fd : FuncData} {ps : List Str} {sp : Sp} (F : FnOk P w K mg base CX k f fd ps sp) : FnG P w K mg base CX k f fd ps sp :=
  ⟨F.len, fun A _ => F.run A⟩
theorem FnG.mono {P : Program} {w : World} {K : PySem.W.Frag} {mg : Str → Option Value} {base : Heap} {CX : CXT} {j k : Nat} {f : Addr} {fd : FuncData} {ps : List Str} {sp : Sp} (F : FnG P w K mg base CX j f fd ps sp) (h : j ≤ k) :
    FnG P w K mg base CX k f fd ps sp := ⟨F.len, fun A g outer s H args us vs Q E hr => F.run A g outer s H args us vs Q E (hr.mono h)⟩

section
variable {X : Cx} {CX : CXT} {k : Nat} {f : Addr} {fd : FuncData} {ps : List Str} {sp : Sp} {dvs : List V} {ds : List Value} {E : XK} {x : Str} {p pos : Pos} {e : Expr} {es : List Expr} {t : TA}
theorem run_fnG {pins : List (Addr × Obj)} {σ : L2.St} {H : Hp} {s : Shared} {Q : VK} {us : List Value} {vs : List V} (F : FnG X.prog X.w X.K X.mg X.base CX k f fd ps sp) (g : X.A.guards = some []) (hr : Room k X.A) (hb : Binds X.K fd ps ds) (hd : Vals dvs ds) (hx : Passes CX X E)
    (I : Inv X pins σ H s) (r : Vals vs us) (h : sp (vs ++ dvs) H Q E) : wpAny (model X.prog X.w) X.A (call (.ref f) us) (EP X pins σ Q) X.xe s := by
  have both := r.append hd
  have hl : (us ++ ds).length = ps.length := both.length.symm.trans (F.len _ _ _ _ h)
  have go := F.run X.A g X.stack s H ⟨us, []⟩ (us ++ ds) (vs ++ dvs) Q E hr I.env0 (hb s us I.kIn hl) both h
  refine wpAny_call (codeAny_mono go fun r s' hq => ?_)
  match r, hq with
  | .error e, hq => exact hx pins σ H s e s' I hq
  | .ok (.ret u), hq => exact I.after hq
/-- f(e, ..) -/
theorem pe_callG (F : FnG X.prog X.w X.K X.mg X.base CX k f fd ps sp) (g : X.A.guards = some []) (hr : Room k X.A) (hg : Gl X x) (hm : X.mg x = some (.ref f)) (hk : PySem.W.keepIn X.K (.ref f) = true) (hb : Binds X.K fd ps ds) (hd : Vals dvs ds) (hx : Passes CX X E)
    (ha : PA X (e :: es) t) (hdb : (x == ("__debug__" : Str)) = false := by decide) (he : starEach (e :: es) X.env = (false, eval e X.env) :: starEach es X.env := by rfl) (hpl : (backTo pos (starEach es X.env)).any (·.1) = false := by rfl) :
    PE X (.Call (.Name x p) (e :: es) [] pos) (tCall sp dvs E t) :=
  ⟨fun pins s σ H Q I h => wpAny_Call_Name_kw (ld_glob I hg hm (PySem.W.callWith_K (h₀ := X.base) I.ok.mod.kin hk (thn (ha.run pos pins s σ H _ I h) fun _ _ ⟨_, _, I1, r, q⟩ => ⟨I1.kIn, run_fnG F g hr hb hd hx I1 r q⟩) he hpl) hdb)⟩
end

theorem guards_deeper {A : Around} {e : Env} (h : A.guards = some []) : (A.deeper e).guards = some [] := by
  first | exact h | (unfold Around.deeper; simpa using h)

section
variable {P : Program} {w : World} {K : PySem.W.Frag} {mg : Str → Option Value} {base : Heap}
/-- a def of the text, its body walked where no repr is under way -/
theorem fnG_of {CX : CXT} {k : Nat} {x qual : Str} {st : Stmt} {f : Addr} {fd : FuncData} {N ps : List Str} {sp : Sp} (F : Fun K x qual st f fd) (S : FnScope N ps (defScope st)) (len : ∀ vs H Q E, sp vs H Q E → vs.length = ps.length)
    (hbody : ∀ (cdv : Value) (A : Around) (outer : List Env) (s : Shared) (H : Hp) (vs : List V) (Q : VK) (E : XK), A.guards = some [] → Room k (A.deeper (envOfC qual (defScope st) s.heap.objs.size f cdv)) → sp vs H Q E →
      ∃ t, PSs (cxOf CX P w K mg base N qual (defScope st) f cdv A outer s H E) (defBody st) t ∧ t { nx := fun _ H' => Q .non H', rt := Q } (start N vs) H) : FnG P w K mg base CX (k + 1) f fd ps sp := by
  obtain ⟨oc, od, kV, doc, pm, an, cdv, ct, osl, rfl, lk, hcd⟩ := F.ex
  refine ⟨len, fun A g outer s H args us vs Q E hr e0 hb r hsp => ?_⟩
  have inHeap : K.In s.heap := e0.mod.kin.keeps fun b o e => (e0.bs b o e).1
  have kinds : ∀ y ∈ ps.zip us, (defScope st).names.lookup y.1 = some .local ∨ ((defScope st).names.lookup y.1 = some .cell ∧ ((cellsFrom (s.heap.objs.size + 1) (defScope st).names []).lookup y.1).isSome = true) := fun y hy =>
    (S.par y.1 (List.of_mem_zip hy).1).imp id fun q => ⟨q, PySem.W.cellsFrom_some _ _ _ (.inl q)⟩
  refine codeAny_call_function hr.depth (inHeap _ _ lk) rfl S.co S.gen rfl (PySem.W.codeRec_of inHeap hcd) (hb _ _ _ _ ?_)
  refine wpAny_newFunctionEnv_cells S.kind kinds fun env he s1 y => ?_
  subst he
  obtain ⟨t, ht, hq⟩ := hbody cdv A outer s H vs Q E g (hr.deeper _) hsp
  have I := inv_start (CX := CX) (E := E) S hr.hd e0 (len _ _ _ _ hsp) r y
  refine ⟨(e0.mod.nolimit.keeps fun b o e => (e0.bs b o e).1).keeps y.toInCall.keep, codeAny_func (wpAny_mono (ht.run [] s1 (start N vs) H _ I hq) (fun fl s' hs => ?_) fun _ _ hs => hs)⟩
  match fl, hs with
  | .ret u, ⟨v, _, H', J, rv, q⟩ => exact ⟨v, H', J.os, J.bare, J.base, J.hok, rv, q⟩
  | .next, ⟨_, H', J, q⟩ => exact ⟨.non, H', J.os, J.bare, J.base, J.hok, rfl, q⟩
  | .brk, ⟨_, _, _, q⟩ => exact False.elim q
  | .cont, ⟨_, _, _, q⟩ => exact False.elim q
end

/-! ### repr of data -/
theorem noDict : ∀ (K : PySem.W.Frag) (H : Hp) (d : PyData) (v : V), Dp K H v d → d.hasDict = false := by
  intro K H d v h
  refine Dp.rec (motive_1 := fun _ d _ => d.hasDict = false) (motive_2 := fun _ ds _ => PyData.hasDictAll ds = false) ?_ ?_ ?_ ?_ ?_ ?_ ?_ ?_ h
  · rfl
  · intro b; rfl
  · intro i; rfl
  · intro x; rfl
  · intro a xs ds _ _ ih; exact ih
  · intro a xs ds _ _ ih; exact ih
  · rfl
  · intro v vs d ds _ _ h1 h2
    show (PyData.hasDict d || PyData.hasDictAll ds) = false
    rw [h1, h2]; rfl
def rRepr (K : PySem.W.Frag) : List V → Hp → VK → Prop := fun xs H Q => ∃ a d, xs = [.ref a] ∧ Dp K H (.ref a) d ∧ d.showable = true ∧ d.depth ≤ 40 ∧ d.shown.length ≤ sizeLine ∧ Q (.str d.shown) H
section
variable {X : Cx}
theorem call_reprD (g : X.A.guards = some []) (hu : X.A.units + 64 < cLine) : CallR X (.builtin "repr") (rRepr X.K) := by
  intro pins s σ H xs us Q I r h
  obtain ⟨a, d, rfl, hd, hs, dp, hz, q⟩ := h
  obtain ⟨u, rfl, ru⟩ := vals1 r
  cases ru
  obtain ⟨as, R⟩ := Dp.reads I d (.ref a) (.ref a) hd rfl
  refine repr_of_reads' R hs (PyData.noDict_hsm (noDict _ _ _ _ hd)) g (by omega) (fun _ _ e => e) (fun h' u tk hk => ?_) hz
  exact ⟨.str d.shown, H, I.kept hk, ⟨_, rfl⟩, q⟩
end

/-! ### the end -/
theorem law_callG {P : Program} {w : World} {K : PySem.W.Frag} {mg mb : Str → Option Value} {CX : CXT} {k : Nat} {fa a : Addr} {fd : FuncData} {x : Str} {sp : Sp} {s₁ : Shared} {vs : List Value} {ns : List Int}
    (KX : K.In s₁.heap) (hns : s₁.heap.Ns mainGlobals mg) (hb : s₁.heap.Ns builtinsNs mb) (hbb : ∀ x : Str, x ≠ "__name__" → mb x = bootBuiltins x) (hlim : s₁.heap.NoLimit) (hg : s₁.gens = #[])
    (ha : s₁.heap.get? a = some { cls := .type "list", data := .seq vs.toArray }) (hi : IntsAre vs ns) (hl : ns.length ≤ sizeLine) (hr : Room k callerA)
    (F : ∀ base : Heap, K.In base → base.Ns mainGlobals mg → FnG P w K mg base CX k fa fd [x] sp) (hbind : ∀ (s : Shared) (u : Value), BindsTo s fd ⟨[u], []⟩ [(x, u)])
    (hsp : ∀ H : Hp, Only H → SqL K H a (ns.map V.int) → sp [.ref a] H (fun v _ => v = .bl true) fun _ _ _ => False)
    (hCX : ∀ H e s', CX [] H s₁ (fun _ _ _ => False) e s' → False) :
    codeAny (model P w) callerA (.call (.ref fa) ⟨[.ref a], []⟩) (fun r s' => r = .ok (.ret (.bool true)) ∧ OldK s₁.heap s'.heap ∧ s'.os = s₁.os ∧ AllBare s'.gens) s₁ := by
  have lenV := hi.length
  let scriptO : Obj := { cls := .type "list", data := .seq vs.toArray }
  -- what is tracked: the script, unless it is one of the module's own objects
  let H : Hp := fun b => if b = a ∧ K.lookup a = none then some (.frz scriptO (.lst (ns.map V.int))) else none
  have H1 : ∀ b u, H b = some u → b = a ∧ K.lookup a = none ∧ u = .frz scriptO (.lst (ns.map V.int)) := fun b u e => by
    show b = a ∧ _ ∧ _
    by_cases c : b = a ∧ K.lookup a = none
    · have e' : some (HO.frz scriptO (.lst (ns.map V.int))) = some u := (if_pos c).symm.trans e
      exact ⟨c.1, c.2, (Option.some.inj e').symm⟩
    · have e' : (none : Option HO) = some u := (if_neg c).symm.trans e
      cases e'
  have only : Only H := fun b => by
    cases e : H b with
    | none => exact .inl rfl
    | some u =>
      obtain ⟨_, _, rfl⟩ := H1 b u e
      exact .inr ⟨_, _, rfl⟩
  have seq : SqL K H a (ns.map V.int) := by
    cases hk : K.lookup a with
    | none => exact .inl (.inr ⟨scriptO, if_pos ⟨rfl, hk⟩⟩)
    | some o =>
      have e := KX a o hk
      rw [ha] at e
      cases e
      exact .inr ⟨_, vs.toArray, _, hk, rfl, rfl, rfl, by rw [List.size_toArray, lenV]; exact hl, by simpa using vals_ints hi⟩
  have ok : HOk P w H s₁.heap := fun b u e => by
    obtain ⟨rfl, _, rfl⟩ := H1 b u e
    exact ⟨ha, by rw [List.length_map]; exact hl, vs, _, vals_ints hi, ha⟩
  -- objects of other kinds than the script are not tracked
  have dictFree : ∀ {b : Addr} {o : Obj} {es : Array DictEntry} {ep : Nat}, s₁.heap.get? b = some o → o.data = .dict es ep → H b = none := fun {b o es ep} e d => by
    cases q : H b with
    | none => rfl
    | some u =>
      obtain ⟨rfl, _, _⟩ := H1 b u q
      rw [ha] at e
      cases e
      exact nomatch (show Data.seq vs.toArray _ = Data.dict es ep from d)
  have ns0 : ∀ {b : Addr} {m : Str → Option Value}, s₁.heap.Ns b m → (hidT s₁.heap H).Ns b m := fun {b m} ⟨o, es, ep, e, d, r⟩ => ⟨o, es, ep, hidT_get e (dictFree e d), d, r⟩
  have kin0 : K.In (hidT s₁.heap H) := fun b o e => hidT_get (KX b o e) (by
    cases q : H b with
    | none => rfl
    | some u =>
      obtain ⟨rfl, hk, _⟩ := H1 b u q
      rw [hk] at e; cases e)
  have md : Mod K mg (hidT s₁.heap H) := ⟨kin0, ns0 hns, ⟨mb, ns0 hb, hbb⟩, let ⟨mc, c1, c2⟩ := hlim; ⟨mc, ns0 c1, c2⟩⟩
  have e0 : Env0 P w K mg (hidT s₁.heap H) callerA [] s₁ H := ⟨rfl, md, fun b o e => of_hidT e, Nat.le_of_eq (hidT_size _ _), trivial, fun b hb => absurd (show b ∈ ([] : List Addr) from hb) (by simp), ok, .of_eq hg⟩
  have go := (F _ kin0 (ns0 hns)).run callerA rfl [] s₁ H ⟨[.ref a], []⟩ [.ref a] [.ref a] _ _ hr e0 (hbind s₁ (.ref a)) (.cons rfl .nil) (hsp H only seq)
  refine codeAny_mono go fun r s' h => ?_
  match r, h with
  | .error e, h => exact (hCX H e s' h).elim
  | .ok (.ret u), ⟨v, H', os, bare, un, hok', r', q⟩ =>
    have q' : v = .bl true := q
    subst q'
    cases (show u = Value.bool true from r')
    refine ⟨rfl, OldK.of_keep fun b o e => ?_, os, bare⟩
    cases q : H b with
    | none => exact un.keep b o e q (fun z => absurd (show b ∈ ([] : List Addr) from z) (by simp)) (by simp)
    | some u =>
      obtain ⟨rfl, _, rfl⟩ := H1 b u q
      have w2 := (hok' _ _ (un.frzs _ _ _ q)).1
      rw [ha] at e
      cases e
      exact w2
theorem walk_ofG {l : PySem.W.OpenLaw} {n k : Nat} {q : Program} {loose : List Str} {XP : (Str → Option Value) → Heap → Prop} {YP : World → Heap → Prop} {d : DefRec} {K : Params → PySem.W.Frag} {CX : World → CXT} {sp : World → Sp} {x : Str}
    (hn : l.most = some n) (hn2 : n ≤ sizeLine) (hdf : d.params.defaults = []) (hr : Room k callerA)
    (hY : ∀ (w : World) (h : Heap), YP w h → (K w.params).In h)
    (F : ∀ (w : World) (mg : Str → Option Value) (fa : Addr) (h : Heap), (K w.params).In h → h.Ns mainGlobals mg → mg d.name = some (.ref fa) → XP mg h →
      ∃ fd : FuncData, (∀ (s : Shared) (u : Value), BindsTo s fd ⟨[u], []⟩ [(x, u)]) ∧
        ∀ base : Heap, (K w.params).In base → base.Ns mainGlobals mg → FnG l.prog w (K w.params) mg base (CX w) k fa fd [x] (sp w))
    (hsp : ∀ (w : World) (H : Hp) (a : Addr) (ns : List Int), ns.length ≤ n → Only H → SqL (K w.params) H a (ns.map V.int) → sp w [.ref a] H (fun v _ => v = .bl true) fun _ _ _ => False)
    (hCX : ∀ (w : World) (H : Hp) (s : Shared) (e : Value) (s' : Shared), CX w [] H s (fun _ _ _ => False) e s' → False) :
    PySem.W.WalkO q loose XP YP l.row.toRowW d [] (fun f vs => PySem.call f vs) :=
  Att.attach_call hn hdf fun w _ s₁ mg mb fa _ _ _ _ a vs ns G Y _ _ _ hmg hobj hints hlen hg =>
    let ⟨_, hb, hF⟩ := F w mg fa _ (hY w _ Y) G.T.g hmg G.X
    law_callG (hY w _ Y) G.T.g G.T.b G.T.builtins G.T.nolimit hg hobj hints (Nat.le_trans hlen hn2) hr hF hb (fun H hO hS => hsp w H a ns hlen hO hS) fun H e s' => hCX w H s₁ e s'
/-- a number that the top keeps under a name, whatever its token -/
theorem loose_int {p : Program} {lv : List (Str × PySem.W.WData)} {mg : Str → Option Value} {h : Heap} {x : Str} {i : Int} (X : PySem.W.XL p lv mg h) (hm : (x, PySem.W.WData.int i) ∈ lv) : ∃ u, mg x = some u ∧ L2.RelV (.int i) u := by
  obtain ⟨v, e, r⟩ := X.2.val _ hm
  cases r
  exact ⟨_, e, _, rfl⟩
end Jg

/-! defs, methods, properties and classes by their names: addresses hidden -/
namespace Jg
open PySem PySem.Spec PyProof.Rows L2

theorem iteFe {A D : Prop} {b : Bool} (e : b = false) (h : D) : if b = true then A else D := by rw [e]; exact iteF h
theorem iteTe {A D : Prop} {b : Bool} (e : b = true) (h : A) : if b = true then A else D := by rw [e]; exact iteT h
/-- a def of the module as the top leaves it -/
structure DefK (K : PySem.W.Frag) (mg : Str → Option Value) (x : Str) (st : Stmt) : Prop where
  ex : ∃ f fd, Fun K x x st f fd ∧ mg x = some (.ref f)
theorem DefK.of {K : PySem.W.Frag} {h : Heap} {mg : Str → Option Value} {x : Str} {st : Stmt} {f : Addr} {oc : Value} {od an : Option Addr} {osl : Array (Option Value)} {kV doc pm cdv ct : Value} (X : K.In h) (G : h.Ns mainGlobals mg)
    (a : PySem.W.nsIn K mainGlobals x = some (some (.ref f))) (l : K.lookup f = some ⟨oc, od, .func (PySem.W.fnOf x x (defArgs st) (defBody st) (defScope st) .none kV doc pm an cdv ct), osl⟩)
    (c : PySem.W.codeIn K cdv x = true) (k : PySem.W.keepIn K (.ref f) = true) : DefK K mg x st := ⟨f, _, fun_mk l c k, PySem.W.mg_of X G a⟩
/-- a method of the class at C -/
structure MetK (K : PySem.W.Frag) (C : Addr) (m qual : Str) (st : Stmt) : Prop where
  ex : ∃ f fd, Fun K m qual st f fd ∧ PySem.W.findIn K (.ref C) m = some (some (.ref f)) ∧ PySem.W.isFn K (.ref f) = true
theorem MetK.of {K : PySem.W.Frag} {C : Addr} {m qual : Str} {st : Stmt} {f : Addr} {oc : Value} {od an : Option Addr} {osl : Array (Option Value)} {kV doc pm cdv ct : Value}
    (a : PySem.W.findIn K (.ref C) m = some (some (.ref f))) (i : PySem.W.isFn K (.ref f) = true) (l : K.lookup f = some ⟨oc, od, .func (PySem.W.fnOf m qual (defArgs st) (defBody st) (defScope st) .none kV doc pm an cdv ct), osl⟩)
    (c : PySem.W.codeIn K cdv qual = true) (k : PySem.W.keepIn K (.ref f) = true) : MetK K C m qual st := ⟨f, _, fun_mk l c k, a, i⟩
/-- a property of the class at C -/
structure PrpK (K : PySem.W.Frag) (C : Addr) (m qual : Str) (st : Stmt) : Prop where
  ex : ∃ p f fd, Fun K m qual st f fd ∧ PropOf K C m p f
theorem PrpK.of {K : PySem.W.Frag} {C : Addr} {m qual : Str} {st : Stmt} {p f : Addr} {rest : List Value} {oc : Value} {od an : Option Addr} {osl : Array (Option Value)} {kV doc pm cdv ct : Value}
    (a : PySem.W.findIn K (.ref C) m = some (some (.ref p))) (g : PySem.W.specialIn K (.ref p) "__get__" = some (some (.builtin "property.__get__"))) (tk : PySem.W.takesIn K (.ref p) = some true) (rc : PySem.W.recIn K p "property" = some (.ref f :: rest))
    (l : K.lookup f = some ⟨oc, od, .func (PySem.W.fnOf m qual (defArgs st) (defBody st) (defScope st) .none kV doc pm an cdv ct), osl⟩)
    (c : PySem.W.codeIn K cdv qual = true) (k : PySem.W.keepIn K (.ref f) = true) : PrpK K C m qual st := ⟨p, f, _, fun_mk l c k, ⟨a, g, tk, rest, rc⟩⟩
/-- a classmethod of the class at C -/
structure CmtK (K : PySem.W.Frag) (C : Addr) (mc : Value) (m qual : Str) (st : Stmt) : Prop where
  ex : ∃ p f fd, Fun K m qual st f fd ∧ ClX.CRead K C mc ∧ ClX.CMet K C mc m p f
theorem CmtK.of {K : PySem.W.Frag} {C : Addr} {mc : Value} {m qual : Str} {st : Stmt} {p f : Addr} {rest : List Value} {oc : Value} {od an : Option Addr} {osl : Array (Option Value)} {kV doc pm cdv ct : Value}
    (rd : PySem.W.readsIn K C mc = true) (ga : PySem.W.specialIn K (.ref C) "__getattribute__" = some (some (.builtin "type.__getattribute__")))
    (a : PySem.W.findCls K (.ref C) mc m = some (.get (.builtin "classmethod.__get__") (.ref p) .none (.ref C))) (rc : PySem.W.recIn K p "classmethod" = some (.ref f :: rest)) (fi : PySem.W.fnIn K f = true)
    (l : K.lookup f = some ⟨oc, od, .func (PySem.W.fnOf m qual (defArgs st) (defBody st) (defScope st) .none kV doc pm an cdv ct), osl⟩)
    (c : PySem.W.codeIn K cdv qual = true) (k : PySem.W.keepIn K (.ref f) = true) : CmtK K C mc m qual st := ⟨p, f, _, fun_mk l c k, ⟨rd, ga⟩, ⟨a, ⟨rest, rc⟩, fi⟩⟩

section
variable (P : Program) (w : World) (K : PySem.W.Frag) (mg : Str → Option Value) (base : Heap) (CX : CXT) (k : Nat)
/-- a def that may be called by its name -/
structure Cal (x : Str) (sp : Sp) : Prop where
  ex : ∃ f fd ps, FnOk P w K mg base CX k f fd ps sp ∧ mg x = some (.ref f) ∧ PySem.W.keepIn K (.ref f) = true ∧ Binds K fd ps []
structure CalG (x : Str) (sp : Sp) : Prop where
  ex : ∃ f fd ps, FnG P w K mg base CX k f fd ps sp ∧ mg x = some (.ref f) ∧ PySem.W.keepIn K (.ref f) = true ∧ Binds K fd ps []
/-- a method of the class at C -/
structure Met (C : Addr) (m : Str) (sp : Sp) : Prop where
  ex : ∃ f fd ps, FnOk P w K mg base CX k f fd ps sp ∧ PySem.W.findIn K (.ref C) m = some (some (.ref f)) ∧ PySem.W.isFn K (.ref f) = true ∧ PySem.W.keepIn K (.ref f) = true ∧ Binds K fd ps []
structure Prp (C : Addr) (m : Str) (sp : Sp) : Prop where
  ex : ∃ p f fd ps, FnOk P w K mg base CX k f fd ps sp ∧ PropOf K C m p f ∧ Binds K fd ps []
structure Cmt (C : Addr) (mc : Value) (m : Str) (sp : Sp) : Prop where
  ex : ∃ p f fd ps, FnOk P w K mg base CX k f fd ps sp ∧ ClX.CRead K C mc ∧ ClX.CMet K C mc m p f ∧ Binds K fd ps []
end
theorem CalG.of {P : Program} {w : World} {K : PySem.W.Frag} {mg : Str → Option Value} {base : Heap} {CX : CXT} {k : Nat} {x : Str} {sp : Sp} (c : Cal P w K mg base CX k x sp) : CalG P w K mg base CX k x sp :=
  let ⟨f, fd, ps, F, a⟩ := c.ex
  ⟨f, fd, ps, .of F, a⟩

/-- how a def of the text binds its arguments -/
def BindOk (x qual : Str) (st : Stmt) (ps : List Str) : Prop :=
  ∀ (kV doc pm : Value) (an : Option Addr) (cdv ct : Value) (us : List Value), us.length = ps.length → bindArgs (PySem.W.fnOf x qual (defArgs st) (defBody st) (defScope st) .none kV doc pm an cdv ct) ⟨us, []⟩ = pure (ps.zip us)
/-- what a body must show -/
def BodyOk (CX : CXT) (P : Program) (w : World) (K : PySem.W.Frag) (mg : Str → Option Value) (base : Heap) (N : List Str) (qual : Str) (st : Stmt) (f : Addr) (k : Nat) (sp : Sp) : Prop :=
  ∀ (cdv : Value) (A : Around) (outer : List Env) (s : Shared) (H : Hp) (vs : List V) (Q : VK) (E : XK), Room k (A.deeper (envOfC qual (defScope st) s.heap.objs.size f cdv)) → sp vs H Q E →
      ∃ t, PSs (cxOf CX P w K mg base N qual (defScope st) f cdv A outer s H E).nox (defBody st) t ∧ t { nx := fun _ H' => Q .non H', rt := Q } (start N vs) H
section
variable {P : Program} {w : World} {K : PySem.W.Frag} {mg : Str → Option Value} {base : Heap} {k : Nat} {C : Addr} {mc : Value} {x m qual : Str} {st : Stmt} {N ps : List Str} {sp : Sp}
theorem DefK.cal (D : DefK K mg x st) (S : FnScope N ps (defScope st)) (b : BindOk x x st ps) (len : ∀ vs H Q E, sp vs H Q E → vs.length = ps.length) (hb : ∀ f, BodyOk CX0 P w K mg base N x st f k sp) : Cal P w K mg base CX0 (k + 1) x sp :=
  let ⟨f, fd, F, m⟩ := D.ex
  ⟨f, fd, ps, F.ok S len (hb f), m, F.kp, F.binds b⟩
theorem DefK.calG (D : DefK K mg x st) (S : FnScope N ps (defScope st)) (b : BindOk x x st ps) (len : ∀ vs H Q E, sp vs H Q E → vs.length = ps.length)
    (hb : ∀ (f : Addr) (cdv : Value) (A : Around) (outer : List Env) (s : Shared) (H : Hp) (vs : List V) (Q : VK) (E : XK), (cxOf CX0 P w K mg base N x (defScope st) f cdv A outer s H E).nox.A.guards = some [] → Room k (A.deeper (envOfC x (defScope st) s.heap.objs.size f cdv)) → sp vs H Q E →
      ∃ t, PSs (cxOf CX0 P w K mg base N x (defScope st) f cdv A outer s H E).nox (defBody st) t ∧ t { nx := fun _ H' => Q .non H', rt := Q } (start N vs) H) : CalG P w K mg base CX0 (k + 1) x sp :=
  let ⟨f, fd, F, m⟩ := D.ex
  ⟨f, fd, ps, fnG_of F S len fun cdv A outer s H vs Q E g hr h =>
    let ⟨t, a, q⟩ := hb f cdv A outer s H vs Q E (guards_deeper g) hr h
    ⟨t, a.nox, q⟩, m, F.kp, F.binds b⟩
/-- .. and the function object, for the end -/
theorem DefK.fnG {fa : Addr} (D : DefK K mg x st) (hm : mg x = some (.ref fa)) (S : FnScope N ps (defScope st)) (b : BindOk x x st ps) (len : ∀ vs H Q E, sp vs H Q E → vs.length = ps.length) :
    ∃ fd : FuncData, Binds K fd ps [] ∧ ∀ (base : Heap), (∀ (f : Addr) (cdv : Value) (A : Around) (outer : List Env) (s : Shared) (H : Hp) (vs : List V) (Q : VK) (E : XK), (cxOf CX0 P w K mg base N x (defScope st) f cdv A outer s H E).nox.A.guards = some [] → Room k (A.deeper (envOfC x (defScope st) s.heap.objs.size f cdv)) → sp vs H Q E →
      ∃ t, PSs (cxOf CX0 P w K mg base N x (defScope st) f cdv A outer s H E).nox (defBody st) t ∧ t { nx := fun _ H' => Q .non H', rt := Q } (start N vs) H) → FnG P w K mg base CX0 (k + 1) fa fd ps sp := by
  obtain ⟨f, fd, F, m⟩ := D.ex
  rw [hm] at m
  cases m
  exact ⟨fd, F.binds b, fun base hb => fnG_of F S len fun cdv A outer s H vs Q E g hr h =>
    let ⟨t, a, q⟩ := hb _ cdv A outer s H vs Q E (guards_deeper g) hr h
    ⟨t, a.nox, q⟩⟩
theorem MetK.met (D : MetK K C m qual st) (S : FnScope N ps (defScope st)) (b : BindOk m qual st ps) (len : ∀ vs H Q E, sp vs H Q E → vs.length = ps.length) (hb : ∀ f, BodyOk CX0 P w K mg base N qual st f k sp) : Met P w K mg base CX0 (k + 1) C m sp :=
  let ⟨f, fd, F, a, i⟩ := D.ex
  ⟨f, fd, ps, F.ok S len (hb f), a, i, F.kp, F.binds b⟩
theorem PrpK.prp (D : PrpK K C m qual st) (S : FnScope N ps (defScope st)) (b : BindOk m qual st ps) (len : ∀ vs H Q E, sp vs H Q E → vs.length = ps.length) (hb : ∀ f, BodyOk CX0 P w K mg base N qual st f k sp) : Prp P w K mg base CX0 (k + 1) C m sp :=
  let ⟨p, f, fd, F, a⟩ := D.ex
  ⟨p, f, fd, ps, F.ok S len (hb f), a, F.binds b⟩
theorem CmtK.cmt (D : CmtK K C mc m qual st) (S : FnScope N ps (defScope st)) (b : BindOk m qual st ps) (len : ∀ vs H Q E, sp vs H Q E → vs.length = ps.length) (hb : ∀ f, BodyOk CX0 P w K mg base N qual st f k sp) : Cmt P w K mg base CX0 (k + 1) C mc m sp :=
  let ⟨p, f, fd, F, r, a⟩ := D.ex
  ⟨p, f, fd, ps, F.ok S len (hb f), r, a, F.binds b⟩
end

section
variable {X : Cx} {k j : Nat} {C : Addr} {mc : Value} {x m : Str} {sp : Sp} {p pos apos : Pos} {e o : Expr} {es : List Expr} {ta : TE} {t : TA}
theorem pe_c (c : Cal X.prog X.w X.K X.mg X.base CX0 k x sp) (hr : Room j X.A) (hk : k ≤ j) (hg : Gl X x) (ha : PA X (e :: es) t)
    (hdb : (x == ("__debug__" : Str)) = false := by decide) (he : starEach (e :: es) X.env = (false, eval e X.env) :: starEach es X.env := by rfl) (hpl : (backTo pos (starEach es X.env)).any (·.1) = false := by rfl) :
    PE X (.Call (.Name x p) (e :: es) [] pos) (tCall sp [] E0 t) := by
  obtain ⟨f, fd, ps, F, hm, kp, b⟩ := c.ex
  exact pe_call F (hr.mono hk) hg hm kp b .nil pass0 ha hdb he hpl
theorem pe_cG (c : CalG X.prog X.w X.K X.mg X.base CX0 k x sp) (g : X.A.guards = some []) (hr : Room j X.A) (hk : k ≤ j) (hg : Gl X x) (ha : PA X (e :: es) t)
    (hdb : (x == ("__debug__" : Str)) = false := by decide) (he : starEach (e :: es) X.env = (false, eval e X.env) :: starEach es X.env := by rfl) (hpl : (backTo pos (starEach es X.env)).any (·.1) = false := by rfl) :
    PE X (.Call (.Name x p) (e :: es) [] pos) (tCall sp [] E0 t) := by
  obtain ⟨f, fd, ps, F, hm, kp, b⟩ := c.ex
  exact pe_callG F g (hr.mono hk) hg hm kp b .nil pass0 ha hdb he hpl
/-- a class that is made by its name -/
structure Mak (P : Program) (w : World) (K : PySem.W.Frag) (mg : Str → Option Value) (base : Heap) (CX : CXT) (k : Nat) (x : Str) (C : Addr) (sp : Sp) : Prop where
  mg_ : mg x = some (.ref C)
  mks : PySem.W.makesIn K C = true
  kp : PySem.W.keepIn K (.ref C) = true
  init : Met P w K mg base CX k C "__init__" sp
theorem pe_mk (c : Mak X.prog X.w X.K X.mg X.base CX0 k x C sp) (hr : Room j X.A) (hk : k + 1 ≤ j) (hg : Gl X x) (ha : PA X (e :: es) t)
    (hdb : (x == ("__debug__" : Str)) = false := by decide) (he : starEach (e :: es) X.env = (false, eval e X.env) :: starEach es X.env := by rfl) (hpl : (backTo pos (starEach es X.env)).any (·.1) = false := by rfl) :
    PE X (.Call (.Name x p) (e :: es) [] pos) (tMake C sp [] E0 t) := by
  obtain ⟨f, fd, ps, F, a, i, kp, b⟩ := c.init.ex
  exact pe_make ⟨c.mks, a, i, c.kp⟩ F (hr.mono hk) hg c.mg_ b .nil pass0 ha hdb he hpl
theorem pe_mkL {i : Nat} (c : Mak X.prog X.w X.K X.mg X.base CX0 k m C sp) (hr : Room j X.A) (hk : k + 1 ≤ j) (hN : X.N[i]? = some x) (hv : Vis X.env.scope x) (ha : PA X (e :: es) t)
    (hdb : (x == ("__debug__" : Str)) = false := by decide) (hcd : (x == ("__classdict__" : Str)) = false := by decide)
    (he : starEach (e :: es) X.env = (false, eval e X.env) :: starEach es X.env := by rfl) (hpl : (backTo pos (starEach es X.env)).any (·.1) = false := by rfl) : PE X (.Call (.Name x p) (e :: es) [] pos) (tMakeL i C sp [] E0 t) := by
  obtain ⟨f, fd, ps, F, a, b', kp, b⟩ := c.init.ex
  exact pe_makeL ⟨c.mks, a, b', c.kp⟩ F (hr.mono hk) hN hv b .nil pass0 ha hdb hcd he hpl
theorem pe_m {pl : Sem Bool} (c : Met X.prog X.w X.K X.mg X.base CX0 k C m sp) (cl : Cls X.K C) (hr : Room j X.A) (hk : k ≤ j) (he : PE X o ta) (ha : PA X (e :: es) t)
    (hst : starEach (e :: es) X.env = (false, eval e X.env) :: starEach es X.env := by rfl) (hpl : (backTo pos (starEach es X.env)).any (·.1) = false := by rfl)
    (ht : eval (.Call (.Attribute o m apos) (e :: es) [] pos) X.env = (do
      let ov ← eval o X.env
      standAt apos.atName
      let (f, first) ← holding [ov] (getMethod ov m pl)
      callWith pos f first (backTo pos (starEach (e :: es) X.env)) (backToKw pos (keywordEach [] X.env))) := by rfl) :
    PE X (.Call (.Attribute o m apos) (e :: es) [] pos) (tMeth C m sp [] E0 ta t) := by
  obtain ⟨f, fd, ps, F, a, i, kp, b⟩ := c.ex
  exact pe_meth (pl := pl) he cl ⟨a, i, kp⟩ F (hr.mono hk) b .nil pass0 ha hst hpl ht
theorem pe_p (c : Prp X.prog X.w X.K X.mg X.base CX0 k C m sp) (cl : Cls X.K C) (hr : Room j X.A) (hk : k + 1 ≤ j) (he : PE X o ta)
    (hab : attributeBase o m X.env (eval o X.env) = eval o X.env := by rfl) : PE X (.Attribute o m pos) (tProp C sp [] E0 ta) := by
  obtain ⟨q, f, fd, ps, F, a, b⟩ := c.ex
  exact pe_prop he cl a F (hr.mono hk) b .nil pass0 hab
theorem op_c {op : CmpOp} {m : Str} (c : Met X.prog X.w X.K X.mg X.base CX0 k C m sp) (hr : Room j X.A) (hk : k ≤ j) (hm : m = (cmpInfo op).2.1 := by rfl)
    (hc : ∀ v u, compareOp op v u = richCompare op v u := by intro _ _; rfl) : OpR X (compareOp op) (rOwn X.K C sp E0) := by
  subst hm
  obtain ⟨f, fd, ps, F, a, i, kp, b⟩ := c.ex
  exact op_own F (hr.mono hk) ⟨a, i⟩ b pass0 hc
theorem op_b {op : Operator} {m : Str} (c : Met X.prog X.w X.K X.mg X.base CX0 k C m sp) (sf : PySem.W.selfFirst X.K C = true) (hr : Room j X.A) (hk : k ≤ j) (hm : m = PySem.dunder op.info.2 := by rfl) : OpR X (binaryOp op) (rOwnB C sp E0) := by
  subst hm
  obtain ⟨f, fd, ps, F, a, i, kp, b⟩ := c.ex
  exact op_ownB F (hr.mono hk) ⟨a, i⟩ sf b pass0
theorem op_in (c : Met X.prog X.w X.K X.mg X.base CX0 k C "__contains__" sp) (hr : Room j X.A) (hk : k ≤ j) : OpR X (compareOp .In) (rOwnIn C sp E0) := by
  obtain ⟨f, fd, ps, F, a, i, kp, b⟩ := c.ex
  exact op_ownIn F (hr.mono hk) ⟨a, i⟩ b pass0
theorem op_notIn (c : Met X.prog X.w X.K X.mg X.base CX0 k C "__contains__" sp) (hr : Room j X.A) (hk : k ≤ j) : OpR X (compareOp .NotIn) (rOwnNotIn C sp E0) := by
  obtain ⟨f, fd, ps, F, a, i, kp, b⟩ := c.ex
  exact op_ownNotIn F (hr.mono hk) ⟨a, i⟩ b pass0
/-- a name of the module, by its value; a built-in type by its name -/
theorem pe_gc {v : V} (hg : Gl X x) (h : ∃ u, X.mg x = some u ∧ L2.RelV v u) (hd : (x == ("__debug__" : Str)) = false := by decide) : PE X (.Name x pos) (tC v) := by
  obtain ⟨u, hm, r⟩ := h
  exact pe_glob hg hm r hd
theorem pe_ty {n : String} (hg : Gl X x) (hm : X.mg x = none) (hv : bootBuiltins x = some (.type n)) (hn : x ≠ "__name__" := by decide) (hd : (x == ("__debug__" : Str)) = false := by decide) : PE X (.Name x pos) (tC (.ty n)) :=
  pe_bltn (v := .ty n) (u := .type n) hg hm hv rfl hn hd
theorem pe_cm0 {pl : Sem Bool} (c : Cmt X.prog X.w X.K X.mg X.base CX0 k C mc m sp) (hr : Room j X.A) (hk : k ≤ j) (he : PE X o ta)
    (ht : eval (.Call (.Attribute o m apos) [] [] pos) X.env = (do
      let ov ← eval o X.env
      standAt apos.atName
      let (f, first) ← holding [ov] (getMethod ov m pl)
      callWith pos f first (backTo pos (starEach [] X.env)) (backToKw pos (keywordEach [] X.env))) := by rfl) :
    PE X (.Call (.Attribute o m apos) [] [] pos) (ClX.tCMeth C (fun vs H Q E => sp (vs ++ []) H Q E) E0 ta tNil) := by
  obtain ⟨q, f, fd, ps, F, r, a, b⟩ := c.ex
  exact pe_cmeth0 (pl := pl) he r a (F.raw b .nil) (hr.mono hk) pass0 ht
end
end Jg

/-! comprehensions that filter ints: [m for m in .. if test], the test pure -/
namespace Jg
open PySem PySem.Spec PyProof.Rows L2
def win (lo : Int) (n : Nat) : List Int := (List.range n).map fun j => lo + (j : Nat)
theorem win_succ (lo : Int) (n : Nat) : win lo (n + 1) = win lo n ++ [lo + (n : Nat)] := by
  unfold win
  rw [List.range_succ, List.map_append]; rfl
theorem win_len (lo : Int) (n : Nat) : (win lo n).length = n := by unfold win; simp
/-- the shape that a list comprehension's reading asks -/
abbrev LcAsk (J : It) (g : TG) (tt : TT) (te : TE) (vs : List Nat) (σ : L2.St) (H1 : Hp) (D : Addr) (Qd : Hp → Prop) : Prop :=
  ∃ W : Nat → Nat → Hp → Prop, (∃ m, W 0 m (upd H1 D (.lst []))) ∧ ∀ i m H, W i m H →
      (J.stop i H ∧ Qd H) ∨ (J.go i H ∧ ∃ Nx : Hp → Prop, (∀ H', Nx H' → ∃ m', m' < m ∧ W (i + 1) m' H') ∧ ∀ x H', J.yld i H x H' → g x (wipe σ vs) H' fun σ2 H2 => wipe σ2 vs = wipe σ vs ∧ tt σ2 H2 fun b H3 =>
        if b = true then te σ2 H3 fun y H4 => ∃ acc, H4 D = some (.lst acc) ∧ acc.length < sizeLine ∧ Nx (upd H4 D (.lst (acc ++ [y]))) else Nx H3)
section
variable {i : Nat} {tt : TT} {σ : L2.St} {H1 : Hp} {D : Addr} {Qd : Hp → Prop} {vs : List Nat}
theorem filt_step {p : Int → Bool} {ms : List Int} {m : Int} (nD : H1 D = none) (hl : ms.length < 1000) (hw : wipe ((wipe σ vs).set i (some (.int m))) vs = wipe σ vs) (hi : ((wipe σ vs).set i (some (.int m)))[i]? = some (some (.int m)))
    (ht : ∀ H (k : Bool → Hp → Prop), Same H1 H → k (p m) H → tt ((wipe σ vs).set i (some (.int m))) H k) (Pv : Hp → Prop) (hP : Pv (upd H1 D (.lst (((ms ++ [m]).filter p).map V.int)))) :
    gName i (.int m) (wipe σ vs) (upd H1 D (.lst ((ms.filter p).map V.int))) fun σ2 H2 => wipe σ2 vs = wipe σ vs ∧ tt σ2 H2 fun b H3 =>
      if b = true then tVar i σ2 H3 fun y H4 => ∃ acc, H4 D = some (.lst acc) ∧ acc.length < sizeLine ∧ Pv (upd H4 D (.lst (acc ++ [y]))) else Pv H3 := by
  refine ⟨hw, ht _ _ (fun b o e => by rw [upd_ne (ne_of_none e nD)]; exact e) ?_⟩
  have e1 : (ms ++ [m]).filter p = ms.filter p ++ [m].filter p := List.filter_append ..
  cases hp : p m with
  | true =>
    have e2 : [m].filter p = [m] := by simp [List.filter, hp]
    rw [e1, e2, List.map_append] at hP
    refine iteT ⟨.int m, hi, _, upd_same, ?_, ?_⟩
    · rw [List.length_map]
      exact small1000 (Nat.le_trans (List.length_filter_le ..) (Nat.le_of_lt hl))
    · rw [upd_upd]
      exact hP
  | false =>
    have e2 : [m].filter p = [] := by simp [List.filter, hp]
    rw [e1, e2, List.append_nil] at hP
    exact iteF hP
theorem lcf_range {lo : Int} {n : Nat} (p : Int → Bool) (nD : H1 D = none) (hn : n ≤ 900) (hw : ∀ m : Int, wipe ((wipe σ vs).set i (some (.int m))) vs = wipe σ vs) (hi : ∀ m : Int, ((wipe σ vs).set i (some (.int m)))[i]? = some (some (.int m)))
    (ht : ∀ (m : Int) H (k : Bool → Hp → Prop), m ∈ win lo n → Same H1 H → k (p m) H → tt ((wipe σ vs).set i (some (.int m))) H k) (hd : Qd (upd H1 D (.lst (((win lo n).filter p).map V.int)))) :
    LcAsk (Itr lo n) (gName i) tt (tVar i) vs σ H1 D Qd := by
  refine lc_range (lo := lo) (n := n) (fun j H => H = upd H1 D (.lst (((win lo j).filter p).map V.int))) rfl (fun j H hj e => ?_) fun H e => e ▸ hd
  subst e
  have hm : lo + (j : Nat) ∈ win lo n := List.mem_map.mpr ⟨j, List.mem_range.mpr hj, rfl⟩
  exact filt_step (p := p) nD (by rw [win_len]; omega) (hw _) (hi _) (fun H k => ht _ H k hm) (fun H => H = upd H1 D (.lst (((win lo (j + 1)).filter p).map V.int))) (by rw [win_succ])
theorem lcf_list {K : PySem.W.Frag} {a : Addr} {ms : List Int} (p : Int → Bool) (hs : SqL K H1 a (ms.map V.int)) (nD : H1 D = none) (hn : ms.length ≤ 900) (hw : ∀ m : Int, wipe ((wipe σ vs).set i (some (.int m))) vs = wipe σ vs) (hi : ∀ m : Int, ((wipe σ vs).set i (some (.int m)))[i]? = some (some (.int m)))
    (ht : ∀ (m : Int) H (k : Bool → Hp → Prop), m ∈ ms → Same H1 H → k (p m) H → tt ((wipe σ vs).set i (some (.int m))) H k) (hd : Qd (upd H1 D (.lst ((ms.filter p).map V.int)))) :
    LcAsk (Itl K a) (gName i) tt (tVar i) vs σ H1 D Qd := by
  have sn : ∀ o, Same H1 (upd H1 D o) := fun o b u e => by rw [upd_ne (ne_of_none e nD)]; exact e
  refine lc_list (K := K) (a := a) (xs := ms.map V.int) (fun j H => H = upd H1 D (.lst (((ms.take j).filter p).map V.int))) rfl (fun j H _ e => e ▸ (sn _).seq hs) (fun j x H hx e => ?_) fun H e => ?_
  · subst e
    rw [List.getElem?_map] at hx
    cases hm : ms[j]? with
    | none => rw [hm] at hx; cases hx
    | some m =>
      rw [hm] at hx
      cases hx
      have e2 : ms.take (j + 1) = ms.take j ++ [m] := by rw [List.take_add_one, hm]; rfl
      exact filt_step (p := p) nD (by rw [List.length_take]; omega) (hw _) (hi _) (fun H k => ht _ H k (List.mem_of_getElem? hm)) (fun H => H = upd H1 D (.lst (((ms.take (j + 1)).filter p).map V.int))) (by rw [e2])
  · rw [List.length_map, List.take_length] at e
    exact e ▸ hd
end
/-! ### strictly sorted lists of ints -/
theorem sorted_ext : ∀ {xs ys : List Int}, xs.Pairwise (· < ·) → ys.Pairwise (· < ·) → (∀ k, k ∈ xs ↔ k ∈ ys) → xs = ys
  | [], [], _, _, _ => rfl
  | [], y :: ys, _, _, h => absurd ((h y).mpr List.mem_cons_self) (by simp)
  | x :: xs, [], _, _, h => absurd ((h x).mp List.mem_cons_self) (by simp)
  | x :: xs, y :: ys, h1, h2, h => by
    obtain ⟨a1, a2⟩ := List.pairwise_cons.mp h1
    obtain ⟨b1, b2⟩ := List.pairwise_cons.mp h2
    have e : x = y := by
      have m1 := (h x).mp List.mem_cons_self
      have m2 := (h y).mpr List.mem_cons_self
      rcases List.mem_cons.mp m1 with z | z
      · exact z
      · rcases List.mem_cons.mp m2 with z' | z'
        · exact z'.symm
        · have := b1 x z
          have := a1 y z'
          omega
    subst e
    have t : xs = ys := sorted_ext a2 b2 fun k => by
      constructor
      · intro hk
        rcases List.mem_cons.mp ((h k).mp (List.mem_cons_of_mem _ hk)) with z | z
        · have := a1 k hk; omega
        · exact z
      · intro hk
        rcases List.mem_cons.mp ((h k).mpr (List.mem_cons_of_mem _ hk)) with z | z
        · have := b1 k hk; omega
        · exact z
    rw [t]
theorem win_sorted (lo : Int) (n : Nat) : (win lo n).Pairwise (· < ·) := by
  unfold win
  rw [List.pairwise_map]
  exact List.pairwise_lt_range.imp fun h => by omega
theorem mem_win {lo : Int} {n : Nat} {m : Int} : m ∈ win lo n ↔ lo ≤ m ∧ m < lo + n := by
  unfold win
  constructor
  · intro h
    obtain ⟨j, hj, rfl⟩ := List.mem_map.mp h
    have := List.mem_range.mp hj
    omega
  · intro h
    exact List.mem_map.mpr ⟨(m - lo).toNat, List.mem_range.mpr (by omega), by omega⟩
/-- the last item, the first one given -/
def lastOf (x : Int) : List Int → Int
  | [] => x
  | y :: r => lastOf y r
/-- how many there are at most between the first and the last, and when all of them are there -/
theorem tight : ∀ (x : Int) (l : List Int), (x :: l).Pairwise (· < ·) → x ≤ lastOf x l ∧ ((x :: l).length : Int) ≤ lastOf x l - x + 1 ∧ (((x :: l).length : Int) = lastOf x l - x + 1 ↔ ∀ m, x ≤ m → m ≤ lastOf x l → m ∈ x :: l)
  | x, [], _ => by
    refine ⟨Int.le_refl _, by show (1 : Int) ≤ x - x + 1; omega, ⟨fun _ m h1 h2 => ?_, fun _ => by show (1 : Int) = x - x + 1; omega⟩⟩
    have h3 : m ≤ x := h2
    have e : m = x := by omega
    rw [e]; exact List.mem_cons_self
  | x, y :: r, h => by
    obtain ⟨a1, a2⟩ := List.pairwise_cons.mp h
    have hxy := a1 y List.mem_cons_self
    obtain ⟨i1, i2, i3⟩ := tight y r a2
    have el : lastOf x (y :: r) = lastOf y r := rfl
    have en : ((x :: y :: r).length : Int) = ((y :: r).length : Int) + 1 := by simp
    rw [el, en]
    refine ⟨by omega, by omega, ⟨fun e m h1 h2 => ?_, fun q => ?_⟩⟩
    · have e1 : y = x + 1 := by omega
      by_cases c : m = x
      · rw [c]; exact List.mem_cons_self
      · exact List.mem_cons_of_mem _ (i3.mp (by omega) m (by omega) h2)
    · have e1 : y = x + 1 := by
        have m1 := q (x + 1) (by omega) (by omega)
        rcases List.mem_cons.mp m1 with z | z
        · omega
        · rcases List.mem_cons.mp z with z | z
          · exact z.symm
          · have := (List.pairwise_cons.mp a2).1 _ z
            omega
      have e2 := i3.mpr fun m h1 h2 => by
        rcases List.mem_cons.mp (q m (by omega) h2) with z | z
        · omega
        · exact z
      omega
theorem lastOf_get : ∀ (x : Int) (l : List Int), (x :: l)[l.length]? = some (lastOf x l)
  | x, [] => rfl
  | x, y :: r => by
    show (y :: r)[r.length]? = _
    exact lastOf_get y r
end Jg

/-! lists and tuples of ints as data: == and what it asks -/
namespace Jg
open PySem PySem.Spec PyProof.Rows L2
theorem lay_ints : ∀ xs : List Int, PyData.canLayAll0 (xs.map PyData.int) = true
  | [] => rfl
  | x :: xs => by
    show (PyData.canLay0 (.int x) && PyData.canLayAll0 (xs.map PyData.int)) = true
    rw [lay_ints xs]; rfl
theorem depth_ints : ∀ xs : List Int, PyData.depthAll (xs.map PyData.int) = 0
  | [] => rfl
  | x :: xs => by
    show max (PyData.depth (.int x)) (PyData.depthAll (xs.map PyData.int)) = 0
    rw [depth_ints xs]; rfl
theorem shaped_ints (xs : List Int) : SeqAt.shaped (.list (xs.map PyData.int)) = true := by
  show (PyData.canLayAll0 (xs.map PyData.int) && decide (PyData.depthAll (xs.map PyData.int) + 1 ≤ 64)) = true
  rw [lay_ints, depth_ints]; rfl
theorem shaped_tup (xs : List Int) : SeqAt.shaped (.tuple (xs.map PyData.int)) = true := by
  show (PyData.canLayAll0 (xs.map PyData.int) && decide (PyData.depthAll (xs.map PyData.int) + 1 ≤ 64)) = true
  rw [lay_ints, depth_ints]; rfl
theorem eqvAll_ints : ∀ xs ys : List Int, PyData.eqvAll (xs.map PyData.int) (ys.map PyData.int) = decide (xs = ys)
  | [], [] => rfl
  | [], y :: ys => rfl
  | x :: xs, [] => rfl
  | x :: xs, y :: ys => by
    have ih := eqvAll_ints xs ys
    show (PyData.eqv (.int x) (.int y) && PyData.eqvAll (xs.map PyData.int) (ys.map PyData.int)) = _
    rw [ih]
    have e : PyData.eqv (.int x) (.int y) = decide (x = y) := by
      by_cases c : x = y
      · subst c; simp [PyData.eqv]
      · simp [PyData.eqv, c]
    rw [e]
    by_cases c : x = y
    · subst c
      by_cases d : xs = ys
      · subst d; simp
      · simp [d]
    · simp [c]
theorem eqv_ints (xs ys : List Int) : PyData.eqv (.list (xs.map PyData.int)) (.list (ys.map PyData.int)) = decide (xs = ys) := by
  rw [PyData.eqv]; exact eqvAll_ints xs ys
theorem eqv_tup (xs ys : List Int) : PyData.eqv (.tuple (xs.map PyData.int)) (.tuple (ys.map PyData.int)) = decide (xs = ys) := by
  rw [PyData.eqv]; exact eqvAll_ints xs ys
theorem dpAll_ints {K : PySem.W.Frag} {H : Hp} : ∀ xs : List Int, DpAll K H (xs.map V.int) (xs.map PyData.int)
  | [] => .nil
  | x :: xs => .cons (.int x) (dpAll_ints xs)
theorem dp_ints {K : PySem.W.Frag} {H : Hp} {a : Addr} {xs : List Int} (h : SqL K H a (xs.map V.int)) : Dp K H (.ref a) (.list (xs.map PyData.int)) := .lst h (dpAll_ints xs)
theorem dp_tup {K : PySem.W.Frag} {H : Hp} {a : Addr} {xs : List Int} (h : SqT K H a (xs.map V.int)) : Dp K H (.ref a) (.tuple (xs.map PyData.int)) := .tup h (dpAll_ints xs)
/-- == of two lists of ints, of two tuples of ints -/
theorem ask_eqL {K : PySem.W.Frag} {H : Hp} {a b : Addr} {xs ys : List Int} {Q : VK} (h1 : SqL K H a (xs.map V.int)) (h2 : SqL K H b (ys.map V.int)) (q : Q (.bl (decide (xs = ys))) H) : rEqD K (.ref a) (.ref b) H Q :=
  ⟨_, _, dp_ints h1, dp_ints h2, shaped_ints xs, shaped_ints ys, by rw [eqv_ints]; exact q⟩
theorem ask_neL {K : PySem.W.Frag} {H : Hp} {a b : Addr} {xs ys : List Int} {Q : VK} (h1 : SqL K H a (xs.map V.int)) (h2 : SqL K H b (ys.map V.int)) (q : Q (.bl (!decide (xs = ys))) H) : rNeD K (.ref a) (.ref b) H Q :=
  ⟨_, _, dp_ints h1, dp_ints h2, shaped_ints xs, shaped_ints ys, by rw [eqv_ints]; exact q⟩
theorem ask_eqT {K : PySem.W.Frag} {H : Hp} {a b : Addr} {xs ys : List Int} {Q : VK} (h1 : SqT K H a (xs.map V.int)) (h2 : SqT K H b (ys.map V.int)) (q : Q (.bl (decide (xs = ys))) H) : rEqD K (.ref a) (.ref b) H Q :=
  ⟨_, _, dp_tup h1, dp_tup h2, shaped_tup xs, shaped_tup ys, by rw [eqv_tup]; exact q⟩
theorem pair_dec {a b c d : Int} : decide ([a, b] = [c, d]) = decide ((a, b) = (c, d)) := by
  by_cases h : (a, b) = (c, d)
  · cases h; rw [decide_eq_true rfl, decide_eq_true rfl]
  · rw [decide_eq_false h, decide_eq_false fun z => h (by injection z with z1 z2; injection z2 with z2 _; rw [z1, z2])]
/-- x in a list of ints -/
theorem inV_ints {m : Int} : ∀ {xs : List Int}, inV (.int m) (xs.map V.int) = decide (m ∈ xs)
  | [] => rfl
  | x :: xs => by
    have ih := inV_ints (m := m) (xs := xs)
    show (eqV (.int x) (.int m) || inV (.int m) (xs.map V.int)) = _
    rw [ih]
    have e : eqV (.int x) (.int m) = decide (x = m) := by
      by_cases c : x = m
      · subst c; simp [eqV]
      · simp [eqV, c]
    rw [e]
    by_cases c : x = m
    · subst c; simp
    · have c' : ¬ m = x := fun z => c z.symm
      simp [c, c']
theorem flat_ints : ∀ {xs : List Int}, (xs.map V.int).all flatV = true
  | [] => rfl
  | x :: xs => by
    show (flatV (.int x) && (xs.map V.int).all flatV) = true
    rw [flat_ints]; rfl
theorem ask_in {K : PySem.W.Frag} {H : Hp} {a : Addr} {xs : List Int} {m : Int} {Q : VK} (h : SqL K H a (xs.map V.int)) (q : Q (.bl (decide (m ∈ xs))) H) : rIn K false (.int m) (.ref a) H Q :=
  ⟨a, _, rfl, .inl h, rfl, flat_ints, by
    show Q (.bl (inV (.int m) (xs.map V.int))) H
    rw [inV_ints]; exact q⟩
theorem map_cat {K : PySem.W.Frag} {H : Hp} {a : Addr} {xs ys : List Int} (h : SqL K H a (xs.map V.int ++ ys.map V.int)) : SqL K H a ((xs ++ ys).map V.int) := by rw [List.map_append]; exact h
end Jg

/-! set(xs) of a list of ints -/
namespace Jg
open PySem PySem.Spec PyProof.Rows L2
/-- a set just made -/
def mtSet (w : World) : Obj := { cls := .type "set", dict := none, data := .set #[] 0 (.fresh 0 0 (!w.params.followText "set-order")) }
section
variable {P : Program} {w : World} {A : Around} {E : Value → Shared → Prop} {s : Shared}
/-- what stands behind set(xs): a new set of the ints -/
abbrev SetDone (w : World) (s : Shared) (ns : List Int) (s₂ : Shared) : Prop :=
  ∃ h' tk c, s₂ = { s with heap := h', toks := tk } ∧ SetR w h' s.heap.objs.size (fun j => decide (j ∈ ns)) c ∧ c ≤ ns.length ∧ ∀ b o, s.heap.get? b = some o → h'.get? b = some o
theorem mt_at (w : World) (h : Heap) : (h.push (mtSet w)).get? h.objs.size = some (mtSet w) := Heap.get?_push_size _ rfl
set_option maxHeartbeats 8000000 in
theorem set_of_list {l : Addr} {items : Array Value} (ns : List Int) {Q : Value → Shared → Prop} (hh : A.handled = none) (hl : s.heap.IsList l items) (hit : IntsAre items.toList ns) (hb : ns.length + 1 < scanBound)
    (h : ∀ s₂, SetDone w s ns s₂ → Q (.ref s.heap.objs.size) s₂) : wpAny (model P w) A (call (.type "set") [.ref l]) Q E s := by
  have hsz : items.size = ns.length := (Array.length_toList (xs := items)).symm.trans (IntsAre.length hit)
  obtain ⟨c, tl, hmro⟩ := F.called_set.mro
  have m1 := F.called_set.made
  have m2 := F.called_set.sub
  have m3 := F.called_set.notType
  have m4 := F.called_set.canCreate
  have m5 := F.typeCall_set_1 (.ref l)
  refine wpAny_call (codeAny_of_tree (show wpAny _ _ (callAny (.type "set") _) _ _ _ from wpAny_pure ⟨Code.quiet_builtin _ (by decide +kernel), codeAny_builtin F.entry_type_call ?_⟩))
  rw [Around.under_plain (weight_type_call_type "set" [.ref l] []) rfl]
  repeat (any_goals (first | assumption | wp_step))
  refine codeAny_mono (code_set_led1 (.ref l) (E := E) (Q₁ := fun obj s₁ => obj = .ref s.heap.objs.size ∧ s₁ = { s with heap := s.heap.push (mtSet w) }) ⟨rfl, rfl⟩) fun r s₁ hr => ?_
  match r, hr with
  | .error e, hr => exact hr
  | .ok (.ret obj), hr =>
    obtain ⟨rfl, rfl⟩ := hr
    have new := mt_at w s.heap
    have ty : Shared.TypeIs { s with heap := s.heap.push (mtSet w) } (.ref s.heap.objs.size) "set" := ⟨_, new, rfl⟩
    have m6 := F.called_set.init.lookup
    have m7 := F.called_set.init.bind (.ref s.heap.objs.size)
    repeat (any_goals (first | assumption | wp_step))
    refine codeAny_mono (codeAny_call_builtin (R := wants (fun r s₂ => r = .none ∧ SetDone w s ns s₂) E) F.called_set.init.plain F.entry_set_init (check_set_init_1 ty ?_)) fun r₂ s₂ hr₂ => ?_
    · obtain ⟨⟨ocls, odict, odata, oslots⟩, hol, hcl, nl, hdl⟩ := hl
      simp only at hcl hdl
      subst hcl; subst hdl
      have lt : l < s.heap.objs.size := Heap.lt_size hol
      have old : (s.heap.push (mtSet w)).get? l = some { cls := .type "list", dict := odict, data := .seq items nl, slots := oslots } := Heap.get?_push_of_some _ hol
      have il : (s.heap.push (mtSet w)).IsList l items := ⟨_, old, rfl, nl, rfl⟩
      have n1 := F.sub_list_set
      have n2 := F.sub_list_frozenset
      have n3 : (Value.type "list" == Value.type "dict") = false := by decide
      have sz : (s.heap.push (mtSet w)).objs.size = s.heap.objs.size + 1 := Heap.size_push ..
      unfold Builtin.«set.__init__» noKeywords Builtin.Frozenset.updateFrom
      generalize hPI : pyIter = PI
      wp_walk
      subst hPI
      refine wpAny_pyIter_list il (wpAny_bind (wpAny_runValue ?_))
      have apart : l ≠ (s.heap.push (mtSet w)).objs.size := by rw [sz]; exact Nat.ne_of_lt (Nat.lt_succ_of_lt lt)
      refine set_update_ints (P := P) (w := w) ((Walks.list (show A.in1.in1.in1.handled = none by simp [hh]) _ l apart items).toS) s.heap.objs.size ?_ ns hsz hb (fun i v hv => ?_) (items.size - 0) 0 _ (by omega) (Nat.zero_le _)
        ⟨⟨_, Heap.get?_push_size _ rfl, rfl, rfl⟩, il.push _⟩ ⟨0, Nat.le_refl 0, setR_new_at (Heap.get?_push_of_some _ new)⟩ fun s' c' hm hc' hS' => ?_
      · rw [sz]
        intro z
        rcases List.mem_cons.mp z with z | z
        · exact absurd z (Nat.ne_of_lt (Nat.lt_succ_self _))
        · rcases List.mem_cons.mp z with z | z
          · exact absurd z (Nat.ne_of_gt lt)
          · cases z
      · have hi : i < ns.length := by rw [← hsz]; exact (Array.getElem?_eq_some_iff.mp hv).1
        obtain ⟨t, e⟩ := PyProof.Rows.IntsAre.int_at hit i v (by rw [Array.getElem?_toList]; exact hv)
        exact ⟨ns[i], t, List.getElem?_eq_getElem hi, by rw [e, List.getD_eq_getElem?_getD, List.getElem?_eq_getElem hi] <;> rfl⟩
      · obtain ⟨h', g2, d', tk', os'⟩ := s'
        obtain rfl : g2 = s.gens := hm.gens
        obtain rfl : d' = s.drawn := hm.drawn
        obtain rfl : os' = s.os := hm.os
        refine wpAny_pure (show wpAny _ _ (ret Value.none) _ _ _ from wpAny_pure ⟨rfl, h', tk', c', rfl, hS', by omega, fun b o e => ?_⟩)
        have lb : b < s.heap.objs.size := Heap.lt_size e
        refine hm.heap b o (fun z => ?_) (Heap.get?_push_of_some _ (Heap.get?_push_of_some _ e))
        rcases List.mem_cons.mp z with z | z
        · exact absurd z (Nat.ne_of_lt lb)
        · rcases List.mem_cons.mp z with z | z
          · rw [sz] at z
            exact absurd z (Nat.ne_of_lt (Nat.lt_succ_of_lt lb))
          · cases z
    · match r₂, hr₂ with
      | .error e, hr₂ => exact hr₂
      | .ok (.ret r), hr₂ =>
        obtain ⟨rfl, done⟩ := hr₂
        repeat (any_goals (first | assumption | wp_step))
        exact h _ done
end
/-- set(xs) -/
def rSetL (K : PySem.W.Frag) (w : World) : List V → Hp → VK → Prop := fun xs H Q => ∃ (a : Addr) (ns : List Int), xs = [.ref a] ∧ SqL K H a (ns.map V.int) ∧ ns.length + 1 < scanBound ∧
  ∀ p c, H p = none → c ≤ ns.length → Q (.ref p) (upd H p (SetO w p (fun j => decide (j ∈ ns)) c))
theorem ints_of : ∀ {ns : List Int} {us : List Value}, Vals (ns.map V.int) us → IntsAre us ns
  | [], [], .nil => .nil
  | n :: _, _ :: _, .cons ⟨t, e⟩ r => by
    subst e
    exact .cons n t (ints_of r)
theorem cr_setL {X : Cx} (hc : X.calm = true) : CallR X (.type "set") (rSetL X.K X.w) := by
  intro pins s σ H xs us Q I r h
  obtain ⟨a, ns, rfl, hs, hb, q⟩ := h
  obtain ⟨u, rfl, ru⟩ := vals1 r
  cases ru
  obtain ⟨its, rv, p, hz⟩ := I.list hs
  refine set_of_list ns (I.ok.hd hc) p.isList (by simpa using ints_of rv) hb fun s₂ ⟨h', tk, c, e, R, hc', k⟩ => ?_
  subst e
  exact ⟨.ref s.heap.objs.size, _, I.laid (t' := tk) k (Nat.le_refl _) (setO_new R), rfl, q _ c (I.hok.fresh (Nat.le_refl _)) hc'⟩
end Jg

/-! try with any number of clauses, named or not, the rest of them perhaps never asked -/
namespace Jg
open PySem PySem.Spec PyProof.Rows L2

/-- an exception a of the class cls, its dict d, lies caught in the frame of X -/
def Caught (X : Cx) (pins : List (Addr × Obj)) (σ : L2.St) (H : Hp) (a : Addr) (cls : Value) (d : Option Addr) (s : Shared) : Prop :=
  ∃ (B : Heap) (s0 : Shared), Inv X pins σ H s0 ∧ (∀ b o, s0.heap.get? b = some o → b ∉ frs X.stack → B.get? b = some o) ∧ s0.heap.UpToSlots s.heap ∧
    HandSPX.FlyingZ B (X.env :: X.outer) a (Zc cls d) s.heap ∧ s.os = s0.os ∧ AllBare s.gens ∧ H a = none
section
variable {X : Cx} {pins : List (Addr × Obj)} {σ : L2.St} {H : Hp} {a : Addr} {cls : Value} {d : Option Addr} {s : Shared}
theorem Caught.inv (c : Caught X pins σ H a cls d s) : Inv X pins σ H s :=
  let ⟨_, _, J, keep, up, fly, os, bare, _⟩ := c
  J.landed keep fly.1 up os bare
theorem Caught.hole (c : Caught X pins σ H a cls d s) : H a = none :=
  let ⟨_, _, _, _, _, _, _, _, z⟩ := c
  z
/-- the place of the exception, and what stands there -/
theorem Caught.place (c : Caught X pins σ H a cls d s) (fr : X.env.frame = some X.env.locals) :
    ∃ oe vs, s.heap.get? a = some oe ∧ Zc cls d oe ∧ oe.data = .fields vs ∧ a ≠ X.env.locals ∧ a ∉ X.fs := by
  obtain ⟨B, s0, J, keep, up, fly, os, bare, z⟩ := c
  obtain ⟨oe, vs, at_, zc, dt⟩ := fly.there
  have out : a ∉ frs (X.env :: X.outer) := fun m => by
    obtain ⟨_, o, at2, no⟩ := fly.2.2.1.mem m
    cases at_.symm.trans at2
    exact no vs dt
  refine ⟨oe, vs, at_, zc, dt, fun e => out ?_, fun m => out ?_⟩
  · rw [e]
    exact List.mem_filterMap.mpr ⟨_, List.mem_cons_self, fr⟩
  · obtain ⟨e, me, fe⟩ := List.mem_filterMap.mp m
    exact List.mem_filterMap.mpr ⟨e, List.mem_cons_of_mem _ me, fe⟩
theorem Caught.again {M : Model} {A : Around} {E : Value → Shared → Prop} {Q : Unit → Shared → Prop} (c : Caught X pins σ H a cls d s) (q : ∀ s', Caught X pins σ H a cls d s' → Q () s') :
    wpAny M A (setFlight (.ref a) .none) Q E s := by
  obtain ⟨B, s0, J, keep, up, fly, os, bare, z⟩ := c
  exact HandSPX.lands_againZ fly fun h' fly' up' => q _ ⟨B, s0, J, keep, up.trans up', fly', os, bare, z⟩
/-- no clause took it: it goes on -/
theorem Caught.goes {W : WX} {Q : Flow → Shared → Prop} {pos : String} (ok : X.Ok) (hs : X.stack = X.env :: X.outer) (fr : X.env.frame = some X.env.locals) (c : Caught X pins σ H a cls d s) (tk : Takes X W) (w : W cls d σ H) :
    wpAny (model X.prog X.w) X.A (passOn pos (.ref a) X.env) Q X.xe s := by
  obtain ⟨B, s0, J, keep, up, fly, os, bare, z⟩ := c
  obtain ⟨_, _, _, oe, vs, T, oT, ts, at_, _, dt, one, _⟩ := id fly
  have last : wpAny (model X.prog X.w) X.A (setFlight (.ref a) X.env.frame) (fun _ s4 => wpAny (model X.prog X.w) X.A (throw (.ref a) : Sem Flow) Q X.xe s4) X.xe s := by
    rw [fr]
    refine HandSPX.setFlight_upZ fly fun h4 held up4 => wpAny_throw (tk _ _ ⟨a, B, s0, pins, σ, H, cls, d, rfl, J, keep, up.trans up4, .inr (.inr ?_), z, os, bare, w⟩)
    rw [hs]
    exact held
  unfold PySem.passOn
  refine wpAny_bind (wpAny_field at_ dt one ?_)
  rw [if_neg (by simp : ¬ ((Value.ref T == Value.none) = true))]
  first
    | exact wpAny_bind (wpAny_pure (wpAny_bind last))
    | exact wpAny_bind last
end

/-- the slot i is free behind what the ends say -/
def gone (i : Nat) (D : Ends) : Ends := { nx := fun σ H => D.nx (σ.set i .none) H, rt := D.rt, bk := fun σ H => D.bk (σ.set i .none) H, ct := fun σ H => D.ct (σ.set i .none) H }
/-- what a row of clauses wishes of the exception -/
inductive Hds (X : Cx) (Wout : WX) : List ExceptHandler → (Ends → WX) → Prop
  | out : Hds X Wout [] fun _ => Wout
  | cut {l : List ExceptHandler} : Hds X Wout l fun _ _ _ _ _ => False
  | named {x n : Str} {c : Value} {i : Nat} {ts : Addr → Value → Option Addr → TS} {b : Stmt} {suite : List Stmt} {np p : Pos} {l : List ExceptHandler} {w : Ends → WX} (hi : X.N[i]? = some n) (hl : X.env.kindOf n = some .local) (hc : Names X x c)
      (body : ∀ (a : Addr) (oe : Obj) (cls : Value) (d : Option Addr) (pn : List (Addr × Obj)), Zc cls d oe → (∃ vs, oe.data = .fields vs) → PSs (X.suite a ((a, oe) :: pn)) (b :: suite) (ts a cls d)) (r : Hds X Wout l w) :
      Hds X Wout (.ExceptHandler (some (.Name x np)) (some n) (b :: suite) p :: l) fun D cls d σ H =>
        ∃ k, PySem.W.exmOne X.K cls c = some k ∧ (k = true → ∀ a, H a = .none → ts a cls d (gone i D) (σ.set i (some (.ref a))) H) ∧ (k = false → w D cls d σ H)
  | plain {x : Str} {c : Value} {ts : Addr → Value → Option Addr → TS} {b : Stmt} {suite : List Stmt} {np p : Pos} {l : List ExceptHandler} {w : Ends → WX} (hc : Names X x c)
      (body : ∀ (a : Addr) (oe : Obj) (cls : Value) (d : Option Addr) (pn : List (Addr × Obj)), Zc cls d oe → (∃ vs, oe.data = .fields vs) → PSs (X.suite a ((a, oe) :: pn)) (b :: suite) (ts a cls d)) (r : Hds X Wout l w) :
      Hds X Wout (.ExceptHandler (some (.Name x np)) none (b :: suite) p :: l) fun D cls d σ H =>
        ∃ k, PySem.W.exmOne X.K cls c = some k ∧ (k = true → ∀ a, H a = .none → ts a cls d D σ H) ∧ (k = false → w D cls d σ H)
section
variable {X : Cx} {Wout : WX}
/-- the test of a clause -/
theorem Caught.test {pins : List (Addr × Obj)} {σ : L2.St} {H : Hp} {a : Addr} {cls c : Value} {d : Option Addr} {s : Shared} {x : Str} {k : Bool} {np p : Pos} {R : Result → Shared → Prop} (t : Caught X pins σ H a cls d s) (fr : X.env.frame = some X.env.locals)
    (hc : Names X x c) (e : PySem.W.exmOne X.K cls c = some k) (q : R (.ok (if k then .brk else .next)) s) :
    codeAny (model X.prog X.w) (X.A.mark (some (.ref a))) (.handlers (.ref a) [.ExceptHandler (some (.Name x np)) none [] p] X.env) R s := by
  obtain ⟨oe, vs, at_, zc, dt, nl, nf⟩ := t.place fr
  have J := t.inv.suite at_ dt t.hole nl nf
  have ty : PySem.W.Looks (model X.prog X.w) s.heap (typeOf (.ref a)) cls := fun A Q E s' keep z => wpAny_typeOf_ref (keep _ _ at_) (by rw [zc.1]; exact z)
  have hit := PySem.W.exm_one (M := model X.prog X.w) t.inv.kIn ty e
  refine codeAny_handlers_test ?_
  obtain ⟨hg, nd, m | ⟨m, v, nn⟩⟩ := hc
  · exact ld_glob J hg m (hit.here q) nd
  · exact ld_blt J hg m v (hit.here q) nn nd
theorem Hds.run {hds : List ExceptHandler} {w : Ends → WX} (hd : Hds X Wout hds w) (hs : X.stack = X.env :: X.outer) (fr : X.env.frame = some X.env.locals) (hN : X.N.Nodup) (tk : Takes X Wout)
    {pins : List (Addr × Obj)} {σ : L2.St} {H : Hp} {a : Addr} {cls : Value} {d : Option Addr} {s : Shared} {D : Ends} (t : Caught X pins σ H a cls d s) (h : w D cls d σ H) :
    wpAny (model X.prog X.w) X.A (handleBy (.ref a) X.env hds) (SP X pins D) X.xe s := by
  have ok := t.inv.ok
  induction hd with
  | out => exact wpAny_handleBy_nil (t.goes ok hs fr tk h)
  | cut => exact h.elim
  | @named x n c i ts b suite np p l w hi hl hc body r ih =>
    obtain ⟨k, e, yes, no⟩ := h
    refine wpAny_handleBy_cons ?_ (fun z => nomatch z)
    refine t.test fr hc e ?_
    cases k with
    | false => exact ih (no rfl)
    | true =>
      refine codeAny_handlers_suite_as (t.again fun s2 t2 => ?_)
      obtain ⟨oe, vs, at_, zc, dt, nl, nf⟩ := t2.place fr
      have J := t2.inv.suite at_ dt t2.hole nl nf
      refine store_ok (X := X.suite a ((a, oe) :: (X.pn ++ pins))) (v := .ref a) J hN hi (.inl hl) rfl (fun s3 J3 => ?_) (.inr hl)
      refine wpAny_mono ((body a oe cls d _ zc ⟨vs, dt⟩).run [] s3 _ H _ J3 (yes rfl a t2.hole)) (fun f s4 z => ?_) fun _ _ z => z.elim
      have off : ∀ {σ4 : L2.St} {H4 : Hp} {Q : Shared → Prop}, Inv (X.suite a ((a, oe) :: (X.pn ++ pins))) [] σ4 H4 s4 → (∀ s5, Inv X pins (σ4.set i .none) H4 s5 → Q s5) →
          wpAny (model X.prog X.w) X.A (do bindName X.env n .none; unbindBehindTheSuite X.env n p) (fun _ s5 => Q s5) X.xe s4 := fun J4 q => gone_ok (J4.unsuite ok) hN hi hl q
      match f, z with
      | .next, ⟨_, _, J4, q⟩ => exact off J4 fun s5 J5 => ⟨_, _, J5, q⟩
      | .brk, ⟨_, _, J4, q⟩ => exact off J4 fun s5 J5 => ⟨_, _, J5, q⟩
      | .cont, ⟨_, _, J4, q⟩ => exact off J4 fun s5 J5 => ⟨_, _, J5, q⟩
      | .ret u, ⟨_, _, _, J4, rv, q⟩ => exact off J4 fun s5 J5 => ⟨_, _, _, J5, rv, q⟩
  | @plain x c ts b suite np p l w hc body r ih =>
    obtain ⟨k, e, yes, no⟩ := h
    refine wpAny_handleBy_cons ?_ (fun z => nomatch z)
    refine t.test fr hc e ?_
    cases k with
    | false => exact ih (no rfl)
    | true =>
      refine codeAny_handlers_suite (t.again fun s2 t2 => ?_)
      obtain ⟨oe, vs, at_, zc, dt, nl, nf⟩ := t2.place fr
      have J := t2.inv.suite at_ dt t2.hole nl nf
      refine wpAny_mono ((body a oe cls d _ zc ⟨vs, dt⟩).run [] s2 _ H _ J (yes rfl a t2.hole)) (fun f s4 z => ?_) fun _ _ z => z.elim
      match f, z with
      | .next, ⟨_, _, J4, q⟩ => exact ⟨_, _, J4.unsuite ok, q⟩
      | .brk, ⟨_, _, J4, q⟩ => exact ⟨_, _, J4.unsuite ok, q⟩
      | .cont, ⟨_, _, J4, q⟩ => exact ⟨_, _, J4.unsuite ok, q⟩
      | .ret u, ⟨_, _, _, J4, rv, q⟩ => exact ⟨_, _, _, J4.unsuite ok, rv, q⟩
/-- try: body / clauses -/
theorem ps_try {body : List Stmt} {h₀ : ExceptHandler} {hds : List ExceptHandler} {w : Ends → WX} {pos : Pos} {tb : WX → TS} (hd : Hds X Wout (h₀ :: hds) w) (hs : X.stack = X.env :: X.outer) (fr : X.env.frame = some X.env.locals) (hN : X.N.Nodup) (tk : Takes X Wout)
    (hb : ∀ (W : WX) (pn : List (Addr × Obj)) (xe : Value → Shared → Prop), Takes (X.tr pn xe) W → PassesOwn (model X.prog X.w) X.A X.env xe → PSs (X.tr pn xe) body (tb W)) :
    PS X (.Try body (h₀ :: hds) [] [] pos) fun D σ H => tb (w D) D σ H := by
  refine ⟨fun pins s σ H D I h => wpAny_Try_except ?_⟩
  have ok := I.ok
  let xe : Value → Shared → Prop := fun e s1 => wpAny (model X.prog X.w) X.A (noteFrame e X.env) (fun _ s2 => wpAny (model X.prog X.w) X.A (setFlight e .none) (fun _ s3 => wpAny (model X.prog X.w) X.A (handleBy e X.env (h₀ :: hds)) (SP X pins D) X.xe s3) X.xe s2) X.xe s1
  have tkb : Takes (X.tr (X.pn ++ pins) xe) (w D) := by
    rintro u s1 ⟨a, B, s0, pins', σ1, H1, cls, d, rfl, J', keep, up, sky, z, os, bare, wd⟩
    have J : Inv X pins σ1 H1 s0 := J'.ofTry ok
    have fl : Sky B (X.env :: X.outer) a (Zc cls d) X.env.locals s1.heap := by rw [← hs]; exact sky
    show wpAny (model X.prog X.w) X.A (noteFrame (.ref a) X.env) _ _ _
    refine Sky.land Zc.steady (by rw [ok.frames, hs]) fr fl fun h3 fly up3 => ?_
    exact hd.run hs fr hN tk ⟨B, s0, J, keep, up.trans up3, fly, os, bare, z⟩ wd
  refine wpAny_mono ((hb (w D) (X.pn ++ pins) xe tkb PassesOwn.looking).run [] s σ H D (I.toTry xe) h) (fun f s1 z => ?_) fun _ _ z => z
  match f, z with
  | .next, ⟨_, _, J, q⟩ => exact wpAny_execs_nil ⟨_, _, J.ofTry ok, q⟩
  | .brk, ⟨_, _, J, q⟩ => exact ⟨_, _, J.ofTry ok, q⟩
  | .cont, ⟨_, _, J, q⟩ => exact ⟨_, _, J.ofTry ok, q⟩
  | .ret u, ⟨_, _, _, J, rv, q⟩ => exact ⟨_, _, _, J.ofTry ok, rv, q⟩
end

/-! ### what may raise: called at the slots as they stand -/
/-- C(..) whose __init__ may let an exception out -/
def tMakeS (C : Addr) (sp : Sp) (E : L2.St → XK) (t : TA) : TE := fun σ H Q => t σ H fun vs H1 => ∀ x dx, H1 x = none → H1 dx = none → dx ≠ x →
  sp (.ref x :: vs) (upd (upd H1 dx (.own x)) x (.ins C dx [])) (fun v H2 => v = .non ∧ Q (.ref x) H2) (E σ)
section
variable {X : Cx} {k j : Nat} {C : Addr} {x m : Str} {sp : Sp} {W : WX} {p pos : Pos} {e : Expr} {es : List Expr} {t : TA}
theorem pe_cS (c : Cal X.prog X.w X.K X.mg X.base (L2.CX X.prog X.w) k x sp) (tk : Takes X W) (hr : Room j X.A) (hk : k ≤ j) (hg : Gl X x) (ha : PA X (e :: es) t)
    (hdb : (x == ("__debug__" : Str)) = false := by decide) (he : starEach (e :: es) X.env = (false, eval e X.env) :: starEach es X.env := by rfl) (hpl : (backTo pos (starEach es X.env)).any (·.1) = false := by rfl) :
    PE X (.Call (.Name x p) (e :: es) [] pos) (tCallS sp (WE W) t) := by
  obtain ⟨f, fd, ps, F, hm, kp, b⟩ := c.ex
  exact pe_callS F (hr.mono hk) hg hm kp b (passAt tk) ha hdb he hpl
theorem pe_mkS (c : Mak X.prog X.w X.K X.mg X.base (L2.CX X.prog X.w) k x C sp) (tk : Takes X W) (hr : Room j X.A) (hk : k + 1 ≤ j) (hg : Gl X x) (ha : PA X (e :: es) t)
    (hdb : (x == ("__debug__" : Str)) = false := by decide) (he : starEach (e :: es) X.env = (false, eval e X.env) :: starEach es X.env := by rfl) (hpl : (backTo pos (starEach es X.env)).any (·.1) = false := by rfl) :
    PE X (.Call (.Name x p) (e :: es) [] pos) (tMakeS C sp (WE W) t) := by
  obtain ⟨f, fd, ps, F, ini, fn, kp, b⟩ := c.init.ex
  refine ⟨fun pins s σ H Q I h => wpAny_Call_Name_kw (ld_glob I hg c.mg_ (PySem.W.callWith_K (h₀ := X.base) I.ok.mod.kin c.kp (thn (ha.run pos pins s σ H _ I h) fun us s1 ⟨vs, H1, J, r, q⟩ => ⟨J.kIn, ?_⟩) he hpl) hdb)⟩
  have q1 := q (s1.heap.objs.size + 1) s1.heap.objs.size (J.hok.fresh (Nat.le_succ _)) (J.hok.fresh (Nat.le_refl _)) (Nat.ne_of_lt (Nat.lt_succ_self _))
  have J2 := Inv.made (C := C) J
  have r2 : Vals (V.ref (s1.heap.objs.size + 1) :: vs) (Value.ref (s1.heap.objs.size + 1) :: us) := .cons rfl r
  have ln : (Value.ref (s1.heap.objs.size + 1) :: us).length = ps.length := r2.length.symm.trans (F.len _ _ _ _ q1)
  have bd := b _ (Value.ref (s1.heap.objs.size + 1) :: us) J2.kIn (by rw [List.append_nil]; exact ln)
  rw [List.append_nil] at bd
  have run := F.run _ X.stack _ _ ⟨Value.ref (s1.heap.objs.size + 1) :: us, []⟩ _ _ _ (WE W σ) ((hr.mono hk).make C us []) (J2.env0.make C us []) bd r2 q1
  show wpAny (model X.prog X.w) X.A (call (.ref C) us) (EP X pins σ Q) X.xe s1
  refine wpAny_call (make_map (f := f) J.kIn c.mks ini (beq_iff_eq.mp fn) (codeAny_mono run fun o s2 z => ?_))
  match o, z with
  | .error err, z => exact passAt tk σ pins _ _ err s2 J2 z
  | .ok (.ret u), z =>
    obtain ⟨v, H2, J3, rv, ev, q3⟩ := J2.after z
    subst ev
    exact ⟨rv, V.ref (s1.heap.objs.size + 1), H2, J3, rfl, q3⟩
end
section
variable {P : Program} {w : World} {K : PySem.W.Frag} {mg : Str → Option Value} {base : Heap} {k : Nat} {C : Addr} {x m qual : Str} {st : Stmt} {N ps : List Str} {sp : Sp}
/-- what a body that may raise must show -/
def BodyX (P : Program) (w : World) (K : PySem.W.Frag) (mg : Str → Option Value) (base : Heap) (N : List Str) (qual : Str) (st : Stmt) (f : Addr) (k : Nat) (sp : Sp) : Prop :=
  ∀ (cdv : Value) (A : Around) (outer : List Env) (s : Shared) (H : Hp) (vs : List V) (Q : VK) (E : XK), Room k (A.deeper (envOfC qual (defScope st) s.heap.objs.size f cdv)) → sp vs H Q E →
      ∃ t, PSs (cxOf (L2.CX P w) P w K mg base N qual (defScope st) f cdv A outer s H E) (defBody st) t ∧ t { nx := fun _ H' => Q .non H', rt := Q } (start N vs) H
theorem DefK.calX (D : DefK K mg x st) (S : FnScope N ps (defScope st)) (b : BindOk x x st ps) (len : ∀ vs H Q E, sp vs H Q E → vs.length = ps.length) (hb : ∀ f, BodyX P w K mg base N x st f k sp) : Cal P w K mg base (L2.CX P w) (k + 1) x sp :=
  let ⟨f, fd, F, m⟩ := D.ex
  ⟨f, fd, ps, F.okX S len (hb f), m, F.kp, F.binds b⟩
theorem MetK.metX (D : MetK K C m qual st) (S : FnScope N ps (defScope st)) (b : BindOk m qual st ps) (len : ∀ vs H Q E, sp vs H Q E → vs.length = ps.length) (hb : ∀ f, BodyX P w K mg base N qual st f k sp) : Met P w K mg base (L2.CX P w) (k + 1) C m sp :=
  let ⟨f, fd, F, a, i⟩ := D.ex
  ⟨f, fd, ps, F.okX S len (hb f), a, i, F.kp, F.binds b⟩
end
/-! ### an exception class of the program with an own __init__ -/
structure Exn (P : Program) (w : World) (K : PySem.W.Frag) (mg : Str → Option Value) (base : Heap) (k : Nat) (x : Str) (C : Addr) (sp : Sp) : Prop where
  mg_ : mg x = some (.ref C)
  cls : OexC K C
  init : ∃ fI fd ps, FnOk P w K mg base CX0 k fI fd ps sp ∧ PySem.W.findIn K (.ref C) "__init__" = some (some (.ref fI)) ∧ PySem.W.typeIn K (.ref fI) = some (.type "function") ∧ Binds K fd ps []
theorem pmk_x {X : Cx} {k j : Nat} {C : Addr} {x : Str} {sp : Sp} {p pos : Pos} {e : Expr} {es : List Expr} {t : TA} (c : Exn X.prog X.w X.K X.mg X.base k x C sp) (hr : Room j X.A) (hk : k + 1 ≤ j) (hg : Gl X x) (ha : PA X (e :: es) t)
    (hdb : (x == ("__debug__" : Str)) = false := by decide) (he : starEach (e :: es) X.env = (false, eval e X.env) :: starEach es X.env := by rfl) (hpl : (backTo pos (starEach es X.env)).any (·.1) = false := by rfl) :
    PMk X (.Call (.Name x p) (e :: es) [] pos) (tMkO C sp [] t) := by
  obtain ⟨fI, fd, ps, F, a, ty, b⟩ := c.init
  exact pmk_oex c.cls a ty F (hr.mono hk) b .nil pass0 hg c.mg_ ha hdb he hpl

/-- __init__ that keeps its one argument in the field f -/
def spX (C : Addr) (f : Str) : Sp := fun vs H Q _ => ∃ a y, vs = [.ref a, y] ∧ H a = some (exo a C none) ∧ ∀ dx, H dx = none → dx ≠ a → Q .non (upd (upd H dx (exd dx [(f, y)])) a (exo a C (some dx)))
/-- .. called: the exception's dict is new, all else stays -/
theorem x_read {C : Addr} {f : Str} {y : V} {H : Hp} {Q : XK} (h : ∀ d, H d = none → Q (.ref C) (some d) (upd H d (.xd [(f, y)]))) : ([y] : List V).length ≤ 1000 ∧ ∀ a, H a = none → spX C f (.ref a :: ([y] ++ [])) (upd H a (exo a C none))
    (fun v H2 => v = .non ∧ ∃ (d : Addr) (fs : List (Str × V)), H2 a = some (exo a C (some d)) ∧ H2 d = some (exd d fs) ∧ H d = none ∧ Q (.ref C) (some d) (upd (del H2 a) d (.xd fs))) fun _ _ _ => False := by
  refine ⟨by show 1 ≤ 1000; decide, fun a na => ⟨a, y, rfl, upd_same, fun dx nd ne => ⟨rfl, dx, [(f, y)], upd_same, ?_, ?_, ?_⟩⟩⟩
  · rw [upd_ne ne, upd_same]
  · rw [upd_ne ne] at nd
    exact nd
  · have nd' : H dx = none := by rw [upd_ne ne] at nd; exact nd
    have e : upd (del (upd (upd (upd H a (exo a C none)) dx (exd dx [(f, y)])) a (exo a C (some dx))) a) dx (.xd [(f, y)]) = upd H dx (.xd [(f, y)]) := by
      funext b
      by_cases c1 : b = dx
      · rw [c1, upd_same, upd_same]
      · rw [upd_ne c1, upd_ne c1]
        by_cases c2 : b = a
        · rw [c2, del_same, na]
        · rw [del_ne c2, upd_ne c2, upd_ne c1, upd_ne c2]
    rw [e]
    exact h dx nd'
/-- what the class of a caught exception must say, for its fields and for isinstance -/
structure ExcK (K : PySem.W.Frag) (C : Addr) : Prop where
  xf : XfC K C
  ha : PySem.W.findIn K (.ref C) "__class__" = some (some (.builtin "object.__class__"))
  hn : PySem.W.specialIn K (.builtin "object.__class__") "__get__" = some (some (.builtin "getset_descriptor.__get__"))
  ht : PySem.W.takesIn K (.builtin "object.__class__") = some true
  hm : PySem.W.mroIn K C (.type "object") = some true
section
variable {X : Cx} {a C : Addr} {oe : Obj} {cls : Value} {d : Option Addr} {pn : List (Addr × Obj)}
/-- isinstance(e, c) of a caught exception with a dict -/
def rIsX (K : PySem.W.Frag) (cls : Value) (C a : Addr) (d : Option Addr) : List V → Hp → VK → Prop := fun xs H Q => ∃ (c : V) (cv : Value) (b : Bool) (dd : Addr) (fs : List (Str × V)), xs = [.ref a, c] ∧ cls = .ref C ∧ d = some dd ∧ H dd = some (.xd fs) ∧ (∀ u, RelV c u → u = cv) ∧ PySem.W.kitOne K (.ref C) cv = some b ∧ Q (.bl b) H
theorem exc_inst {pins : List (Addr × Obj)} {σ : L2.St} {H : Hp} {s : Shared} {dd : Addr} {fs : List (Str × V)} (I : Inv (X.suite a ((a, oe) :: pn)) pins σ H s) (hz : Zc (.ref C) (some dd) oe) (hf : ∃ vs, oe.data = .fields vs) (e : H dd = some (.xd fs)) : ∃ od, PySem.W.InstAt s.heap a oe C (some od) := by
  obtain ⟨mA, ns, _⟩ := I.hok dd _ e
  obtain ⟨od, at2, _⟩ := lookIn_ns ns
  obtain ⟨at1, _⟩ := I.pin (a, oe) (List.mem_append_left _ List.mem_cons_self)
  obtain ⟨vs, dt⟩ := hf
  exact ⟨od, at1, hz.1, by unfold PySem.W.notCls; rw [dt] <;> rfl, by rw [hz.2]; exact at2⟩
theorem call_isX (T : ExcK X.K C) (hz : Zc cls d oe) (hf : ∃ vs, oe.data = .fields vs) : CallR (X.suite a ((a, oe) :: pn)) (.builtin "isinstance") (rIsX X.K cls C a d) := by
  intro pins s σ H xs us Q I r h
  obtain ⟨c, cv, b, dd, fs, rfl, rfl, rfl, e, hc, k, q⟩ := h
  cases r with
  | cons r1 r2 =>
    cases r2 with
    | cons r3 r4 =>
      cases r4
      cases r1
      have ec := hc _ r3
      subst ec
      obtain ⟨od, J⟩ := exc_inst I hz hf e
      have cl : (PySem.W.clsIn X.K C).isSome = true := by
        obtain ⟨cd, z, _⟩ := PySem.W.any_some T.xf.hdC
        rw [z]; rfl
      exact PySem.W.kia_one (PySem.W.kitx_exc cl T.xf.ga T.xf.gg T.xf.exC T.ha T.hn T.ht T.hm) I.kIn J k (fun z => nomatch z) fun tk => ⟨.bl b, H, I.kept (t' := tk) fun _ _ z => z, rfl, q⟩
end
end Jg

/-! repr of any value that is data -/
namespace Jg
open PySem PySem.Spec PyProof.Rows L2
/-- v is shown as x -/
inductive Shw (K : PySem.W.Frag) (H : Hp) : V → Str → Prop
  | non : Shw K H .non "None"
  | bl (b : Bool) : Shw K H (.bl b) (if b then "True" else "False")
  | int (i : Int) (h : i.natAbs.log2 < 1920) : Shw K H (.int i) (toString i)
  | str (x : Str) (h : (reprText x).length ≤ sizeLine) : Shw K H (.str x) (reprText x)
  | dat {a : Addr} {d : PyData} (h : Dp K H (.ref a) d) (s : d.showable = true) (dp : d.depth ≤ 40) (z : d.shown.length ≤ sizeLine) : Shw K H (.ref a) d.shown
  | dnew {a : Addr} (h : H a = some (.dK [])) : Shw K H (.ref a) (PyData.dict []).shown
theorem Shw.keep {K : PySem.W.Frag} {H H' : Hp} {v : V} {x : Str} (s : Shw K H v x) (k : ∀ d, Dp K H v d → Dp K H' v d) (k2 : ∀ a, H a = some (.dK []) → H' a = some (.dK [])) : Shw K H' v x := by
  cases s with
  | non => exact .non
  | bl b => exact .bl b
  | int i h => exact .int i h
  | str x h => exact .str x h
  | dat h s dp z => exact .dat (k _ h) s dp z
  | dnew h => exact .dnew (k2 _ h)
def rShw (K : PySem.W.Frag) : List V → Hp → VK → Prop := fun xs H Q => ∃ v x, xs = [v] ∧ Shw K H v x ∧ Q (.str x) H
section
variable {X : Cx}
theorem dk_nil {P : Program} {w : World} {H : Hp} {h : Heap} {a : Addr} (ok : HOk P w H h) (e : H a = some (.dK [])) : ∃ as, Reads h (.ref a) (.dict []) as ∧ sysModules ∉ as := by
  obtain ⟨_, na, vs, kv, o, es, n, at_, ex, dt, _, pr, _⟩ := ok a _ e
  cases kv
  have e0 : es.toList = [] := by
    revert pr
    generalize es.toList = l
    intro pr
    cases pr
    rfl
  have r1 : ReadsAll h (es.toList.map (·.key)) (([] : List (PyData × PyData)).map (·.1)) [] := by rw [e0]; exact ReadsAll.nil
  have r2 : ReadsAll h (es.toList.map (·.val)) (([] : List (PyData × PyData)).map (·.2)) [] := by rw [e0]; exact ReadsAll.nil
  refine ⟨_, Reads.dict at_ ex.1 dt r1 r2, fun m => ?_⟩
  have z : sysModules = a := by simpa using m
  rw [← z] at na
  cases na
theorem call_shw (g : X.A.guards = some []) (hu : X.A.units + 64 < cLine) : CallR X (.builtin "repr") (rShw X.K) := by
  intro pins s σ H xs us Q I r h
  obtain ⟨v, x, rfl, sh, q⟩ := h
  obtain ⟨u, rfl, ru⟩ := vals1 r
  cases sh with
  | non => cases ru; exact PySem.P.repr_of_none ⟨.str _, H, I.tok _, ⟨_, rfl⟩, q⟩
  | bl b => cases ru; exact PySem.P.repr_of_bool ⟨.str _, H, I.tok _, ⟨_, rfl⟩, q⟩
  | int i hz => obtain ⟨t, rfl⟩ := ru; exact PySem.P.repr_of_int hz ⟨.str _, H, I.tok _, ⟨_, rfl⟩, q⟩
  | str y hz => obtain ⟨t, rfl⟩ := ru; exact PySem.P.repr_of_str ⟨.str _, H, I.tok _, ⟨_, rfl⟩, q⟩ hz
  | dat hd hs dp hz =>
    cases ru
    obtain ⟨as, R⟩ := Dp.reads I _ _ (.ref _) hd rfl
    exact repr_of_reads' R hs (PyData.noDict_hsm (noDict _ _ _ _ hd)) g (by omega) (fun _ _ e => e) (fun h' u tk hk => ⟨.str _, H, I.kept hk, ⟨_, rfl⟩, q⟩) hz
  | dnew e =>
    cases ru
    obtain ⟨as, R, na⟩ := dk_nil I.hok e
    have dp : (PyData.dict []).depth ≤ 40 := by decide +kernel
    exact repr_of_reads' R (by decide +kernel) (fun _ => na) g (by omega) (fun _ _ e => e) (fun h' u tk hk => ⟨.str _, H, I.kept hk, ⟨_, rfl⟩, q⟩) (by decide +kernel)
end
end Jg

namespace Jg
open PySem PySem.Spec PyProof.Rows L2
theorem bool_in {prog : Program} {w : World} (x : Value) : MeetsIn prog w (Builtin.«bool.__new__» ⟨[.type "bool", x], []⟩) fun A R s => wpAny (model prog w) A.in1 (truthy x) (fun b s' => R (.ok (.ret (.bool b))) s') (fun e s' => R (.error e) s') s := by
  intro A R s h
  have f1 := F.conv_sub_bool
  unfold Builtin.«bool.__new__»
  repeat (any_goals (first | assumption | wp_step))
  all_goals (show wpAny (model prog w) A.in1 (truthy x) _ _ s; exact wpAny_mono h (fun b s' z => wpAny_pure z) fun _ _ z => z)
/-- bool(x) of an instance with an own __bool__ -/
def rBoolO (C : Addr) (sp : Sp) (E : XK) : List V → Hp → VK → Prop := fun xs H Q => ∃ a dx fs, xs = [.ref a] ∧ H a = some (.ins C dx fs) ∧ sp [.ref a] H (fun v H' => ∃ b, v = .bl b ∧ Q (.bl b) H') E
theorem call_boolO {X : Cx} {k j : Nat} {C : Addr} {sp : Sp} (c : Met X.prog X.w X.K X.mg X.base CX0 k C "__bool__" sp) (hr : Room j X.A) (hk : k + 2 ≤ j) : CallR X (.type "bool") (rBoolO C sp E0) := by
  intro pins s σ H xs us Q I r h
  obtain ⟨a, dx, fs, rfl, ea, q⟩ := h
  obtain rfl := Vals.ref1 r
  obtain ⟨f, fd, ps, F, ini, fn, kp, b⟩ := c.ex
  obtain ⟨mA, J, _⟩ := ins_get I.hok ea
  obtain ⟨od, J, _⟩ := J.look
  obtain ⟨m, hF⟩ := I.fr
  have rv : Vals [V.ref a] [Value.ref a] := .cons rfl .nil
  have ln : [Value.ref a].length = ps.length := rv.length.symm.trans (F.len _ _ _ _ q)
  have bd := b s [Value.ref a] I.kIn (by rw [List.append_nil]; exact ln)
  rw [List.append_nil] at bd
  have rm : Room (k + 2) X.A := hr.mono hk
  have run := F.run X.A.in1.in1 X.stack s H ⟨[Value.ref a], []⟩ _ _ _ E0 rm.in1.in1 I.env0.in1.in1 bd rv q
  refine callType_newIn PySem.F.called_bool PySem.F.newNe_bool (PySem.F.typeCall_bool_1 _) (PySem.F.newCall_bool_1 _) (fun obj => PySem.F.args_object_init_2 obj _) PySem.F.entry_bool_new (bool_in _) ?_
  refine PySem.W.truthy_K hF I.ok.mod.kin J ini fn (wpAny_call (codeAny_mono run fun o s2 z => ?_))
  match o, z with
  | .error err, z => exact z.elim
  | .ok (.ret u), z =>
    obtain ⟨v, H2, J3, rv3, bb, rfl, q3⟩ := I.after z
    cases rv3
    exact ⟨PySem.typeIs_bool _ _, .bl bb, H2, J3, rfl, q3⟩
end Jg

/-! own exceptions over any built-in one; methods and classes with keywords that may raise, at the slots as they stand -/
namespace Jg
open PySem PySem.Spec PyProof.Rows L2

/-- the class at C stands over the built-in exception B -/
structure OvB (K : PySem.W.Frag) (C : Addr) (B nid iid : String) (line : List Value) : Prop where
  fB : ExcBaseFacts B nid iid line
  sB : StoreFacts B line "object.__setattr__" "object"
  ini : PySem.W.excInitIn K C line nid = true
  ovr : PySem.W.excOver K C line = true
  hd : PySem.W.hasDictIn K C = true
  sa : PySem.W.findIn K (.ref C) "__setattr__" = some (some (.builtin "object.__setattr__"))
  exC : PySem.W.subIn K (.ref C) (.type "BaseException") = some true
  tyC : PySem.W.typeIn K (.ref C) = some (.type "type")
  kC : PySem.W.keepIn K (.ref C) = true
def Ovr (K : PySem.W.Frag) (C : Addr) : Prop := ∃ B nid iid line, OvB K C B nid iid line
theorem taker0 {K : PySem.W.Frag} {C : Addr} {f : Str} (h : PySem.W.findIn K (.ref C) f = some none) : PySem.W.takerIn K C f = some none := by
  unfold PySem.W.takerIn
  rw [h]
  rfl
section
variable {X : Cx} {pins : List (Addr × Obj)} {σ : L2.St} {H : Hp} {s : Shared} {a C : Addr} {f : Str} {y : V} {u : Value} {Q : Unit → Shared → Prop} {E : Value → Shared → Prop} {A : Around}
/-- the first field of an exception that is being made: its dict comes to be -/
theorem keep_first (T : Ovr X.K C) (I : Inv X pins σ H s) (e : H a = some (exo a C none)) (no : PySem.W.findIn X.K (.ref C) f = some none) (ry : RelV y u)
    (h : ∀ dx s', H dx = none → dx ≠ a → Inv X pins σ (upd (upd H dx (exd dx [(f, y)])) a (exo a C (some dx))) s' → Q () s') : wpAny (model X.prog X.w) A (setAttr (.ref a) f u) Q E s := by
  obtain ⟨B, nid, iid, line, T⟩ := T
  obtain ⟨t1, ho⟩ := exo_at I.hok e
  obtain ⟨cd, hc, hdd⟩ := PySem.W.any_some T.hd
  have kin := I.kIn
  obtain ⟨hp, g, d, t, os⟩ := s
  refine PySem.W.set_plain (ox := PySem.W.excObj C t1 none .none) (od := none) kin ⟨ho, rfl, rfl, trivial⟩ T.sa ?_
  refine PySem.W.osa_openX (od := none) T.sB kin ⟨ho, rfl, rfl, trivial⟩ T.ovr (taker0 no) fun b => ?_
  refine wpAny_bind (wpAny_pure (wpAny_bind (PySem.W.instanceDict_exc ho (PySem.W.looks_clsIn kin hc) hdd ?_)))
  have below : a < hp.objs.size := Heap.lt_size ho
  have apart : a ≠ hp.objs.size := Nat.ne_of_lt below
  have ho2 : (hp.push (PySem.W.dictOf [] 0)).get? a = some (PySem.W.excObj C t1 none .none) := Heap.get?_push_of_some _ ho
  show wpAny _ _ (Builtin.ObjectAttr.storeInDict hp.objs.size (.str f _) f u) _ _ _
  refine HandSPX.store_in_new ⟨_, #[], _, (Heap.get?_update_ne _ _ _ _ apart.symm).trans (Heap.get?_push_at rfl rfl), rfl, fun _ z => absurd z (by simp), fun _ => rfl⟩ fun h2 tk2 ns1 same => ?_
  -- the dict first, then the exception
  obtain ⟨od, es, ep, hod, rest⟩ := id ns1
  have ha2 : h2.get? a = some (PySem.W.excObj C t1 (some hp.objs.size) .none) := (same.2 a apart).trans (Heap.get?_update_self _ ho2 rfl)
  have stays : ∀ c o, c ≠ a → hp.get? c = some o → h2.get? c = some o := fun c o n z =>
    (same.2 c (Nat.ne_of_lt (Heap.lt_size z))).trans ((Heap.get?_update_ne _ _ _ _ n).trans (Heap.get?_push_of_some _ z))
  have nd : H hp.objs.size = none := I.hok.fresh (Nat.le_refl _)
  have fr : od.isFreed = false := (Heap.get?_some_iff.mp hod).2
  have hg : (hp.push od).get? hp.objs.size = some od := Heap.get?_push_at rfl fr
  have I1 : Inv X pins σ (upd H hp.objs.size (exd hp.objs.size [(f, y)])) ⟨hp.push od, g, d, t, os⟩ :=
    I.laid (a := hp.objs.size) (t' := t) (o := exd hp.objs.size [(f, y)]) (h' := hp.push od) (fun c o z => Heap.get?_push_of_some _ z) (Nat.le_refl _)
      (exd_ok (ns1.at fun o z => by rw [hod] at z; cases z; exact hg) (relO_put (fs := []) ry fun _ => True.intro))
  have e1 : upd H hp.objs.size (exd hp.objs.size [(f, y)]) a = some (exo a C none) := by rw [upd_ne apart]; exact e
  have I2 := I1.write (x := a) (e := a) (t' := tk2) (h' := h2) (o := exo a C (some hp.objs.size)) (by rw [e1]; exact True.intro) (.inl rfl)
    (fun c o n z => by
      by_cases k : c = hp.objs.size
      · subst k
        rw [hg] at z
        cases z
        exact hod
      · have z' : hp.get? c = some o := by
          rw [Heap.get?_push_ne _ _ _ k] at z
          exact z
        exact stays c o n z') ⟨_, ha2⟩ (exo_ok ha2)
  exact h _ _ nd apart.symm I2
end
/-- self.f = e in an exception's __init__ -/
def tKeep (K : PySem.W.Frag) (f : Str) (to te : TE) : TS := fun D σ H => te σ H fun y H1 => to σ H1 fun x H2 => ∃ a C : Addr, x = .ref a ∧ Ovr K C ∧ PySem.W.findIn K (.ref C) f = some none ∧
  H2 a = some (exo a C none) ∧ ∀ dx, H2 dx = none → dx ≠ a → D.nx σ (upd (upd H2 dx (exd dx [(f, y)])) a (exo a C (some dx)))
theorem ps_keep {X : Cx} {o e : Expr} {to te : TE} {f : Str} {p' pos : Pos} (ho : PE X o to) (he : PE X e te) (hs : swapsWith e (some (.Attribute o f p')) pos.line X.env = pure false := by rfl) : PS X (.Assign [.Attribute o f p'] e pos) (tKeep X.K f to te) :=
  ⟨fun pins s σ H D I h => plainObj_wpAny_Assign_Attribute (thn (he.run pins s σ H _ I h) fun v s1 ⟨y, H1, I1, r1, q1⟩ => thn (ho.run pins s1 σ H1 _ I1 q1) fun u s2 ⟨x, H2, I2, r2, a, C, ex, T, no, ea, q⟩ => by
    subst ex
    obtain rfl : u = Value.ref a := r2
    exact keep_first T I2 ea no r1 fun dx s' n ne J => ⟨σ, _, J, q dx n ne⟩) hs⟩
/-- an exception class of the program with an own __init__, over any built-in one -/
structure ExnB (P : Program) (w : World) (K : PySem.W.Frag) (mg : Str → Option Value) (base : Heap) (k : Nat) (x : Str) (C : Addr) (sp : Sp) : Prop where
  mg_ : mg x = some (.ref C)
  cls : Ovr K C
  init : ∃ fI fd ps, FnOk P w K mg base CX0 k fI fd ps sp ∧ PySem.W.findIn K (.ref C) "__init__" = some (some (.ref fI)) ∧ PySem.W.typeIn K (.ref fI) = some (.type "function") ∧ Binds K fd ps []
theorem pmk_b {X : Cx} {k j : Nat} {C : Addr} {x : Str} {sp : Sp} {p pos : Pos} {e : Expr} {es : List Expr} {t : TA} (c : ExnB X.prog X.w X.K X.mg X.base k x C sp) (hr : Room j X.A) (hk : k + 1 ≤ j) (hg : Gl X x) (ha : PA X (e :: es) t)
    (hdb : (x == ("__debug__" : Str)) = false := by decide) (he : starEach (e :: es) X.env = (false, eval e X.env) :: starEach es X.env := by rfl) (hpl : (backTo pos (starEach es X.env)).any (·.1) = false := by rfl) :
    PMk X (.Call (.Name x p) (e :: es) [] pos) (tMkO C sp [] t) := by
  obtain ⟨fI, fd, ps, F, at_, ty, b⟩ := c.init
  obtain ⟨B, nid, iid, line, T⟩ := c.cls
  intro pins s σ H Q I h
  refine wpAny_Call_Name_kw (ld_glob I hg c.mg_ (PySem.W.callWith_K (h₀ := X.base) I.ok.mod.kin T.kC (thn (ha.run pos pins s σ H _ I h) fun us s1 ⟨vs, H1, J, rs, short, go⟩ => ⟨J.kIn, ?_⟩) he hpl) hdb)
  obtain ⟨nm, N, qn, bs, bm, hdct, sn, sub, ab, col, dd, k0, k1, k2, k3, k5, hC, same⟩ := PySem.W.excInit_of J.kIn T.ini
  obtain ⟨hp, g, dr, tk, os⟩ := s1
  let n := hp.objs.size
  let h2 := (hp.push (PySem.W.kdv_tup us)).push (HandSPX.excO C n)
  have grown : ∀ b o, hp.get? b = some o → h2.get? b = some o := fun b o z => Heap.get?_push_of_some _ (Heap.get?_push_of_some _ z)
  have here : h2.get? (n + 1) = some (HandSPX.excO C n) := by
    show ((hp.push (PySem.W.kdv_tup us)).push (HandSPX.excO C hp.objs.size)).get? (hp.objs.size + 1) = some (HandSPX.excO C hp.objs.size)
    heap_get
  have hole : H1 (n + 1) = none := J.hok.fresh (Nat.le_succ _)
  have q0 := go (n + 1) hole
  have J2 : Inv X pins σ (upd H1 (n + 1) (exo (n + 1) C none)) ⟨h2, g, dr, tk, os⟩ := J.laid (t' := tk) (a := n + 1) (h' := h2) grown (Nat.le_succ _) (exo_ok here)
  have rel : Vals (V.ref (n + 1) :: (vs ++ [])) (Value.ref (n + 1) :: (us ++ [])) := .cons rfl (rs.append .nil)
  have many : (Value.ref (n + 1) :: us ++ []).length = ps.length := rel.length.symm.trans (F.len _ _ _ _ q0)
  have fits : us.length ≤ sizeLine := by
    have z := Paired.length rs
    rw [sizeLine_eq]
    omega
  have run := F.run _ X.stack _ _ ⟨Value.ref (n + 1) :: us, []⟩ _ _ _ (fun _ _ _ => False) ((hr.mono hk).make C us []) (J2.env0.make C us []) (b _ (Value.ref (n + 1) :: us) J2.kIn many) rel q0
  show wpAny _ _ (call (.ref C) us) _ _ _
  refine wpAny_call (HandSPX.call_own T.fB same hC (PySem.W.looks_findIn J.kIn at_) (fun self => PySem.W.bind_fn J.kIn self ty) fits (codeAny_mono run fun o s2 z => ?_))
  match o, z with
  | .error err, z => exact (pass0 : Passes CX0 X _) pins σ _ _ err s2 J2 z
  | .ok (.ret u), ⟨v, H2, os2, bare2, un2, hok2, rv, ev, d, fs, ea, ed, nd, q2⟩ =>
    subst ev
    exact ⟨rv, mk_end (raises_own T.exC T.tyC) J (Nat.le_succ _) grown un2 hok2 os2 bare2 ea ed nd q2⟩

/-! ### o.m(e, ..) that may raise -/
def tMethS (C : Addr) (m : Str) (sp : Sp) (E : L2.St → XK) (ta : TE) (t : TA) : TE := fun σ H Q => ta σ H fun x H1 => ∃ a dx fs, x = .ref a ∧ H1 a = some (.ins C dx fs) ∧ fs.lookup m = none ∧ t σ H1 fun vs H2 => sp (.ref a :: vs) H2 Q (E σ)
section
variable {X : Cx} {k j : Nat} {C : Addr} {x m : Str} {sp : Sp} {W : WX} {p pos apos : Pos} {e o : Expr} {es : List Expr} {ta : TE} {t : TA}
theorem pe_mS {pl : Sem Bool} (c : Met X.prog X.w X.K X.mg X.base (L2.CX X.prog X.w) k C m sp) (cl : Cls X.K C) (tk : Takes X W) (hr : Room j X.A) (hk : k ≤ j) (he : PE X o ta) (ha : PA X (e :: es) t)
    (hst : starEach (e :: es) X.env = (false, eval e X.env) :: starEach es X.env := by rfl) (hpl : (backTo pos (starEach es X.env)).any (·.1) = false := by rfl)
    (ht : eval (.Call (.Attribute o m apos) (e :: es) [] pos) X.env = (do
      let ov ← eval o X.env
      standAt apos.atName
      let (f, first) ← holding [ov] (getMethod ov m pl)
      callWith pos f first (backTo pos (starEach (e :: es) X.env)) (backToKw pos (keywordEach [] X.env))) := by rfl) :
    PE X (.Call (.Attribute o m apos) (e :: es) [] pos) (tMethS C m sp (WE W) ta t) := by
  obtain ⟨f, fd, ps, F, at_, i, kp, b⟩ := c.ex
  refine ⟨fun pins s σ H Q I h => PySem.W.methodCall_KW (pl := pl) (thn (he.run pins s σ H _ I h) fun u s1 ⟨x, H1, I1, rx, a, dx, fs, ex, ea, l, q⟩ => ?_) ht⟩
  subst ex
  obtain rfl : u = Value.ref a := rx
  refine getmeth_ok I1 ea cl ⟨at_, i, kp⟩ l (PySem.W.callWith_K (first := [.ref a]) (h₀ := X.base) I.ok.mod.kin kp (thn (ha.run pos pins s1 σ H1 _ I1 q) fun us s2 ⟨vs, H2, I2, r, q2⟩ => ⟨I2.kIn, ?_⟩) hst hpl)
  exact run_fnS (E := WE W) (us := .ref a :: us) (vs := .ref a :: vs) F (hr.mono hk) b (passAt tk σ) I2 (.cons rfl r) q2
end
/-! ### C(k = v, ..) -/
/-- __init__ with keyword-only parameters, as the top leaves it -/
structure IniK (K : PySem.W.Frag) (C : Addr) (qual : Str) (st : Stmt) (kws : List (Str × V)) : Prop where
  ex : ∃ f fd, FunD K "__init__" qual (defArgs st) (defBody st) (defScope st) [] kws f fd ∧ PySem.W.findIn K (.ref C) "__init__" = some (some (.ref f)) ∧ PySem.W.isFn K (.ref f) = true
theorem IniK.of {K : PySem.W.Frag} {C : Addr} {qual : Str} {st : Stmt} {f : Addr} {oc : Value} {od an : Option Addr} {osl : Array (Option Value)} {kV doc pm cdv ct : Value} {kws : List (Str × V)}
    (a : PySem.W.findIn K (.ref C) "__init__" = some (some (.ref f))) (i : PySem.W.isFn K (.ref f) = true) (l : K.lookup f = some ⟨oc, od, .func (PySem.W.fnOf "__init__" qual (defArgs st) (defBody st) (defScope st) .none kV doc pm an cdv ct), osl⟩)
    (c : PySem.W.codeIn K cdv qual = true) (k : PySem.W.keepIn K (.ref f) = true) (kw : KwdV K kV kws) : IniK K C qual st kws := ⟨f, _, ⟨⟨oc, od, .none, kV, doc, pm, an, cdv, ct, osl, rfl, l, c, .inl ⟨rfl, rfl⟩, kw⟩, k⟩, a, i⟩
structure MakW (P : Program) (w : World) (K : PySem.W.Frag) (mg : Str → Option Value) (base : Heap) (CX : CXT) (k : Nat) (x : Str) (C : Addr) (ks : List Str) (gV : List V → List V → List V) (sp : Sp) : Prop where
  mg_ : mg x = some (.ref C)
  mks : PySem.W.makesIn K C = true
  kp : PySem.W.keepIn K (.ref C) = true
  ex : ∃ f fd ps g, FnOk P w K mg base CX k f fd ps sp ∧ PySem.W.findIn K (.ref C) "__init__" = some (some (.ref f)) ∧ PySem.W.isFn K (.ref f) = true ∧ KBn K fd ps 1 ks g gV
def tMakeKS (C : Addr) (m : Nat) (sp : Sp) (gV : List V → List V → List V) (E : L2.St → XK) (tk : TA) : TE := fun σ H Q => tk σ H fun zs H2 => zs.length = m ∧ ∀ x dx, H2 x = none → H2 dx = none → dx ≠ x →
  sp (gV [.ref x] zs) (upd (upd H2 dx (.own x)) x (.ins C dx [])) (fun v H3 => v = .non ∧ Q (.ref x) H3) (E σ)
section
variable {X : Cx} {k j : Nat} {C : Addr} {ks : List Str} {sp : Sp} {x : Str} {p pos : Pos} {kws : List Keyword} {ta : TA} {gV : List V → List V → List V} {W : WX}
theorem pe_mkKS (c : MakW X.prog X.w X.K X.mg X.base (L2.CX X.prog X.w) k x C ks gV sp) (tk : Takes X W) (hr : Room j X.A) (hk : k + 1 ≤ j) (hg : Gl X x) (hkw : PK X kws ta)
    (hall : (backToKw pos (keywordEach kws X.env)).all (·.1.isSome) = true := by rfl) (hks : (backToKw pos (keywordEach kws X.env)).filterMap (·.1) = ks := by rfl) (hdb : (x == ("__debug__" : Str)) = false := by decide)
    (hpl : ((backTo pos (starEach [] X.env)).any (·.1) || (backToKw pos (keywordEach kws X.env)).any (·.1.isNone)) = false := by rfl) :
    PE X (.Call (.Name x p) [] kws pos) (tMakeKS C ks.length sp gV (WE W) ta) := by
  obtain ⟨f, fd, ps, g, F, ini, fn, b⟩ := c.ex
  refine ⟨fun pins s σ H Q I h => wpAny_Call_Name_kw (ld_glob I hg c.mg_ (PySem.W.callWith_KW0 (h₀ := X.base) I.ok.mod.kin c.kp hall ?_ hpl) hdb)⟩
  refine thn (hkw.run pos pins s σ H _ I h) fun ws s2 ⟨zs, H2, J, rz, ln, q⟩ => ⟨J.kIn, ?_⟩
  rw [hks]
  let n := s2.heap.objs.size
  have q1 := q (n + 1) n (J.hok.fresh (Nat.le_succ _)) (J.hok.fresh (Nat.le_refl _)) (Nat.ne_of_lt (Nat.lt_succ_self _))
  have J2 := Inv.made (C := C) J
  have r1 : Vals [V.ref (n + 1)] [Value.ref (n + 1)] := .cons rfl .nil
  have run := F.run _ X.stack _ _ ⟨[Value.ref (n + 1)], ks.zip ws⟩ _ _ _ (WE W σ) ((hr.mono hk).make C [] (ks.zip ws)) (J2.env0.make C [] (ks.zip ws)) (b.to _ [Value.ref (n + 1)] ws J2.kIn rfl (rz.length.symm.trans ln)) (b.rel r1 rz) q1
  show wpAny (model X.prog X.w) X.A (call (.ref C) [] (ks.zip ws)) (EP X pins σ Q) X.xe s2
  refine wpAny_call (make_map (f := f) J.kIn c.mks ini (beq_iff_eq.mp fn) (codeAny_mono run fun o s3 z => ?_))
  match o, z with
  | .error err, z => exact passAt tk σ pins _ _ err s3 J2 z
  | .ok (.ret u), z =>
    obtain ⟨v, H3, J3, rv, ev, q3⟩ := J2.after z
    subst ev
    exact ⟨rv, V.ref (n + 1), H3, J3, rfl, q3⟩
end
section
variable {P : Program} {w : World} {K : PySem.W.Frag} {mg : Str → Option Value} {base : Heap} {k : Nat} {C : Addr} {x qual : Str} {st : Stmt} {N ps ks : List Str} {kws : List (Str × V)} {sp : Sp}
theorem IniK.mak (D : IniK K C qual st kws) (m : mg x = some (.ref C)) (mk : PySem.W.makesIn K C = true) (kp : PySem.W.keepIn K (.ref C) = true) (S : FnScope N ps (defScope st)) (len : ∀ vs H Q E, sp vs H Q E → vs.length = ps.length)
    (ms : List (Str × V)) (g : {α : Type} → List α → List α → List α → List α) (hk : kws ≠ []) (hms : ∀ q ∈ ms, q ∈ kws) (hrel : ∀ {vs mz zs : List V} {us mv ws : List Value}, Vals vs us → Vals mz mv → Vals zs ws → Vals (g vs mz zs) (g us mv ws))
    (hb : ∀ (D : Addr) (doc pm : Value) (an : Option Addr) (cdv ct : Value) (us mv ws : List Value), us.length = 1 → mv.length = ms.length → ws.length = ks.length →
      KwChain D ((ms.map (·.1)).zip mv) (bindArgs (PySem.W.fnOf "__init__" qual (defArgs st) (defBody st) (defScope st) .none (.ref D) doc pm an cdv ct) ⟨us, ks.zip ws⟩) (ps.zip (g us mv ws)))
    (body : ∀ f, BodyX P w K mg base N qual st f k sp) : MakW P w K mg base (L2.CX P w) (k + 1) x C ks (fun vs zs => g vs (ms.map (·.2)) zs) sp :=
  let ⟨f, fd, F, a, i⟩ := D.ex
  let ⟨mv, b⟩ := F.kbinds0 1 ks ms g hk hms hrel hb
  ⟨m, mk, kp, f, fd, ps, _, F.ok S len (body f), a, i, b⟩
end
end Jg

/-! x != y by an own ==; == of data, {} among it -/
namespace Jg
open PySem PySem.Spec PyProof.Rows L2 PySem.W
section
variable {prog : Program} {w : World} {A : Around} {E : Value → Shared → Prop} {s : Shared} {K : Frag} {x C f : Addr} {ox : Obj} {od : Option Obj} {b tb : Value}
theorem ne_entry {Q : Fin → Shared → Prop} (hu : A.units < cLine) (X : K.In s.heap) (I : InstAt s.heap x ox C od) (eq : findIn K (.ref C) "__eq__" = some (some (.ref f))) (fn : isFn K (.ref f) = true)
    (h : wpAny (model prog w) A (call (.ref f) [.ref x, b]) (fun v s' => ∃ c, v = .bool c ∧ Q (.done (.ret (.bool (!c)))) s') E s) : wpAny (model prog w) A (Builtin.«object.__ne__» ⟨[.ref x, b], []⟩) Q E s := by
  unfold Builtin.«object.__ne__»
  refine wpAny_bind (wpAny_of_eq (a := ((Value.ref x : Value), [b])) (by first | rfl | (simp only [slotArgs]; rfl)) ?_)
  refine wpAny_bind (wpAny_cRoomFor hu ?_)
  refine wpAny_bind (ifBound_K (args := [b]) X I eq fn (wpAny_mono h (fun v s' z => ?_) fun _ _ z => z))
  obtain ⟨c, rfl, q⟩ := z
  refine wpAny_bind (wpAny_truthy_bool ?_)
  exact wpAny_pure q
theorem ne_K {Q : Value → Shared → Prop} (hu : A.units + 1 < cLine) (X : K.In s.heap) (I : InstAt s.heap x ox C od) (hb : Looks (model prog w) s.heap (typeOf b) tb) (hn : notFirst K C tb = true)
    (ne : findIn K (.ref C) "__ne__" = some (some (.builtin "object.__ne__"))) (mro : mroIn K C (.type "object") = some true) (eq : findIn K (.ref C) "__eq__" = some (some (.ref f))) (fn : isFn K (.ref f) = true)
    (h : wpAny (model prog w) A.in1 (call (.ref f) [.ref x, b]) (fun v s' => ∃ c, v = .bool c ∧ Q (.bool (!c)) s') E s) : wpAny (model prog w) A (richCompare .NotEq (.ref x) b) Q E s := by
  have isO : Looks (model prog w) s.heap (isInstance (.ref x) (.type "object")) true := I.type.andThen (looks_mroIn X mro)
  have one : wpAny (model prog w) A (tryCompare (.ref x) (cmpInfo .NotEq).2.1 b) (fun r s' => ∃ v, r = some v ∧ Q v s') E s := by
    unfold tryCompare
    refine wpAny_bind ?_
    show wpAny _ _ (callSpecialIfBound? (.ref x) "__ne__" [b]) _ _ _
    simp only [callSpecialIfBound?, bindSpecialIfBound?]
    refine wpAny_holding (wpAny_bind (wpAny_bind (wpAny_bind (I.type.here ((looks_findIn X ne).here ?_)))))
    refine wpAny_bind (wpAny_askSetting (wpAny_ite ?_))
    have fin : ∀ R : Option Value → Shared → Prop, (∀ c s', Q (.bool (!c)) s' → R (some (.bool (!c))) s') → wpAny (model prog w) A (call (.builtin "object.__ne__") ([.ref x] ++ [b]) >>= fun v => pure (some v)) R E s := by
      intro R hR
      refine wpAny_bind (wpAny_call (codeAny_call_builtin F.cmp_object.ne.plain F.cmpEntry_ne (check_slot F.cmpKind_ne F.cmpSplit_ne isO (F.cmpArgs_ne _ _) ?_)))
      refine ne_entry (A := A.in1) hu X I eq fn (wpAny_mono h (fun v s' z => ?_) fun _ _ z => z)
      obtain ⟨c, rfl, q⟩ := z
      exact ⟨c, rfl, wpAny_pure (hR c s' q)⟩
    rw [F.cmp_object.ne.bind (.ref x)]
    split
    · refine wpAny_bind (wpAny_pure (wpAny_pure ?_))
      exact fin _ fun c s' q => wpAny_pure ⟨_, rfl, q⟩
    · refine wpAny_tryCatch (wpAny_bind (wpAny_pure (wpAny_pure ?_)))
      exact fin _ fun c s' q => wpAny_pure ⟨_, rfl, q⟩
  unfold richCompare
  simp only [oneThing_ref]
  refine wpAny_holding (wpAny_bind (wpAny_cRoomFor (Nat.lt_of_succ_lt hu) ?_))
  refine wpAny_bind (I.type.here (wpAny_bind (hb.here ?_)))
  have fin : ∀ s', (∃ v, (∃ r, r = some v ∧ Q v s')) → True := fun _ _ => trivial
  split
  · rename_i q
    have e : subIn K tb (.ref C) = some false := by
      rcases Bool.or_eq_true_iff.mp hn with e | e
      · rw [beq_iff_eq.mp e] at q; simp at q
      · exact beq_iff_eq.mp e
    refine wpAny_bind ((looks_subIn X e).here ?_)
    simp only [Bool.false_eq_true, if_false]
    refine wpAny_bind (wpAny_mono one (fun r s' ⟨v, e, hq⟩ => ?_) fun _ _ e => e)
    subst e
    exact wpAny_pure hq
  · refine wpAny_bind (wpAny_pure ?_)
    simp only [Bool.false_eq_true, if_false]
    refine wpAny_bind (wpAny_mono one (fun r s' ⟨v, e, hq⟩ => ?_) fun _ _ e => e)
    subst e
    exact wpAny_pure hq
end
/-- x != y by the own == of x -/
def rOwnNe (K : PySem.W.Frag) (C : Addr) (sp : Sp) (E : XK) : R2 := fun x y H Q => ∃ a dx fs t, x = .ref a ∧ H a = some (.ins C dx fs) ∧ TyX K H y t ∧ PySem.W.notFirst K C t = true ∧ sp [.ref a, y] H (fun v H' => ∃ c, v = .bl c ∧ Q (.bl (!c)) H') E
theorem op_ne_c {X : Cx} {k j : Nat} {C : Addr} {sp : Sp} (c : Met X.prog X.w X.K X.mg X.base CX0 k C "__eq__" sp) (ne : PySem.W.findIn X.K (.ref C) "__ne__" = some (some (.builtin "object.__ne__"))) (mro : PySem.W.mroIn X.K C (.type "object") = some true) (hr : Room j X.A) (hk : k + 1 ≤ j) :
    OpR X (compareOp .NotEq) (rOwnNe X.K C sp E0) := by
  intro pins s σ H x y v u Q I rx ry h
  obtain ⟨f, fd, ps, F, a0, i0, kp, bd⟩ := c.ex
  obtain ⟨a, dx, fs, t, rfl, ha, ty, nf, q⟩ := h
  cases rx
  obtain ⟨mA, J, _⟩ := ins_get I.hok ha
  obtain ⟨od, J, _⟩ := J.look
  obtain ⟨P, Z, p, _⟩ := kit_of I ry ty
  have rm : Room (k + 1) X.A := hr.mono hk
  show wpAny _ _ (richCompare .NotEq (.ref a) u) _ _ _
  have ln : [Value.ref a, u].length = ps.length := (Paired.length (show Vals [V.ref a, y] [Value.ref a, u] from .cons rfl (.cons ry .nil))).symm.trans (F.len _ _ _ _ q)
  have bb := bd s [Value.ref a, u] I.kIn (by rw [List.append_nil]; exact ln)
  rw [List.append_nil] at bb
  have rr : Vals [V.ref a, y] [Value.ref a, u] := .cons rfl (.cons ry .nil)
  have run := F.run X.A.in1 X.stack s H ⟨[Value.ref a, u], []⟩ _ _ _ E0 rm.in1 I.env0.in1 bb rr q
  refine ne_K (tb := t) (Nat.lt_of_le_of_lt (by omega) hr.units) I.kIn J (Z.ty _ _ I.kIn p) nf ne mro a0 i0 (wpAny_call (codeAny_mono run fun o s2 z => ?_))
  match o, z with
  | .error err, z => exact z.elim
  | .ok (.ret u2), z =>
    obtain ⟨v3, H2, J3, rv3, cc, rfl, q3⟩ := I.after z
    cases rv3
    exact ⟨_, rfl, .bl _, H2, J3, rfl, q3⟩
/-- data, {} among it -/
def DpX (K : PySem.W.Frag) (H : Hp) (v : V) (d : PyData) : Prop := Dp K H v d ∨ ∃ a, v = .ref a ∧ H a = some (.dK []) ∧ d = .dict []
theorem DpX.reads {X : Cx} {pins : List (Addr × Obj)} {σ : L2.St} {H : Hp} {s : Shared} (I : Inv X pins σ H s) {d : PyData} {v : V} {u : Value} (h : DpX X.K H v d) (r : RelV v u) : ∃ as, Reads s.heap u d as := by
  rcases h with h | ⟨a, rfl, e, rfl⟩
  · exact Dp.reads I d v u h r
  · cases r
    obtain ⟨as, z, _⟩ := dk_nil I.hok e
    exact ⟨as, z⟩
def rEqX (K : PySem.W.Frag) : R2 := fun x y H Q => ∃ d e, DpX K H x d ∧ DpX K H y e ∧ SeqAt.shaped d = true ∧ SeqAt.shaped e = true ∧ Q (.bl (PyData.eqv d e)) H
theorem op_eqX {X : Cx} (hu : X.A.units + 64 < cLine) : OpR X (compareOp .Eq) (rEqX X.K) := by
  intro pins s σ H x y v u Q I rx ry h
  obtain ⟨d, e, hd, he, sd, se, q⟩ := h
  obtain ⟨as, r1⟩ := hd.reads I rx
  obtain ⟨bs, r2⟩ := he.reads I ry
  exact SeqAt.compareEq_shaped r1 r2 sd se hu ⟨.bl _, H, I, rfl, q⟩
/-! ### {} == 'text' -/
section
variable {prog : Program} {w : World} {A : Around} {E : Value → Shared → Prop} {s : Shared}
theorem str_no_dict {z : Str} {u : Tok} {d : Addr} {o : Obj} {es : Array DictEntry} {n : Nat} (Q : Value → Shared → Prop) (at_ : s.heap.get? d = some o) (c : o.cls = .type "dict") (hd : o.data = .dict es n) (q : Q .notImplemented s) :
    wpAny (model prog w) A (call (.builtin "str.__eq__") [.str z u, .ref d]) Q E s := by
  refine wpAny_call (codeAny_call_builtin F.slot_str_eq.plain F.entry_str_eq (F.slot_str_eq.check _ _ _ _ _ _ _ _ (typeIs_str s z u) (F.args_str_eq_2 _ _) ?_))
  obtain ⟨oc, od, dt, sl⟩ := o
  subst c hd
  obtain ⟨h0, g0, d0, t0, os0⟩ := s
  wp_walk using wpAny_loadPart' at_, wpAny_load at_
  first
    | exact q
    | exact ⟨_, rfl, q⟩
theorem dict_no_str {z : Str} {u : Tok} {d : Addr} {o : Obj} (Q : Value → Shared → Prop) (at_ : s.heap.get? d = some o) (c : o.cls = .type "dict") (q : Q .notImplemented s) :
    wpAny (model prog w) A (call (.builtin "dict.__eq__") [.ref d, .str z u]) Q E s := by
  have ty : s.TypeIs (.ref d) "dict" := ⟨_, at_, c⟩
  refine wpAny_call (codeAny_call_builtin F.slot_dict_eq.plain F.entry_dict_eq (F.slot_dict_eq.check _ _ _ _ _ _ _ _ ty (F.args_dict_eq_2 _ _) ?_))
  refine wpAny_bind ?_
  unfold Builtin.Dict.dictSlotArgs
  refine wpAny_bind (wpAny_notOrdered_dict ty ?_)
  refine wpAny_pure ?_
  refine wpAny_bind (wpAny_isInstance (T := "str") (typeIs_str s z u) F.sub_str_dict ?_)
  simp only [Bool.not_false, if_true]
  refine wpAny_bind (wpAny_rule ?_)
  first
    | exact wpAny_bind (wpAny_pure (wpAny_pure q))
    | exact wpAny_bind (wpAny_bind (wpAny_pure (wpAny_pure q)))
    | exact wpAny_pure q
theorem eq_dict_str {z : Str} {u : Tok} {d : Addr} {o : Obj} {es : Array DictEntry} {n : Nat} {Q : Value → Shared → Prop} (at_ : s.heap.get? d = some o) (c : o.cls = .type "dict") (hd : o.data = .dict es n) (hu : A.units < cLine) (q : Q (.bool false) s) :
    wpAny (model prog w) A (compareOp .Eq (.ref d) (.str z u)) Q E s :=
  SeqAt.rc_eq_decline_or (k := false) ⟨_, at_, c⟩ (typeIs_str s z u) (by decide) F.sub_str_dict F.slot_dict_eq F.slot_str_eq_refl
    (fun Q' h => dict_no_str Q' at_ c h) (fun Q' h => str_no_dict Q' at_ c hd h) (fun Q' h => wpAny_of_eq (rfl : isSame (.ref d) (.str z u) = pure false) h) (.inr hu) q
end
def rEqY (K : PySem.W.Frag) : R2 := fun x y H Q => rEqD K x y H Q ∨ ∃ a z, x = .ref a ∧ y = .str z ∧ H a = some (.dK []) ∧ Q (.bl false) H
theorem op_eqY {X : Cx} (hu : X.A.units + 64 < cLine) : OpR X (compareOp .Eq) (rEqY X.K) := by
  intro pins s σ H x y v u Q I rx ry h
  rcases h with h | ⟨a, z, rfl, rfl, e, q⟩
  · exact op_eqD hu pins s σ H x y v u Q I rx ry h
  · cases rx
    obtain ⟨t, rfl⟩ := ry
    obtain ⟨_, na, vs, kv, o, es, n, at_, ex, dt, _⟩ := I.hok a _ e
    exact eq_dict_str at_ ex.1 dt (by omega) ⟨.bl _, H, I, rfl, q⟩
end Jg

/-! x + v, v + x by the own methods of x, v of a built-in type; they may raise -/
namespace Jg
open PySem PySem.Spec PyProof.Rows L2 PySem.W
/-- what the operator nm finds at a built-in type -/
structure NumT (T nm : String) (fl : Bool) : Prop where
  fills : fillsNumberSlot (.type T) nm = pure fl
  rad : ∃ r, typeLookup (.type T) (dunderR nm) = pure r
section
variable {prog : Program} {w : World} {A : Around} {E : Value → Shared → Prop} {s : Shared} {K : Frag} {x C f : Addr} {ox : Obj} {od : Option Obj} {b : Value} {T : String} {op : Operator}
/-- the class's own reflected method: none, or a def -/
def RadOk (K : Frag) (C : Addr) (nm : String) : Prop := findIn K (.ref C) (dunderR nm) = some none ∨ ∃ g, findIn K (.ref C) (dunderR nm) = some (some (.ref g))
theorem py_slot {M : Model} {h : Heap} {nm : String} (X : K.In h) (hs : findIn K (.ref C) (PySem.dunder nm) = some (some (.ref f))) (hr : RadOk K C nm) : Looks M h (numberSlotInPython (.ref C) nm) true := by
  intro A Q E s k q
  unfold numberSlotInPython
  dsimp only
  refine wpAny_bind (looks_findIn X hs A _ E s k ?_)
  refine wpAny_bind (wpAny_pure ?_)
  rcases hr with e | ⟨g, e⟩
  · refine wpAny_bind (looks_findIn X e A _ E s k ?_)
    refine wpAny_bind (wpAny_pure ?_)
    rw [Bool.true_or, if_pos rfl]
    exact wpAny_pure q
  · refine wpAny_bind (looks_findIn X e A _ E s k ?_)
    refine wpAny_bind (wpAny_pure ?_)
    rw [Bool.true_or, if_pos rfl]
    exact wpAny_pure q
theorem first_of (hc : selfFirst K C = true) : ∃ cd rest, clsIn K C = some cd ∧ cd.mro = .ref C :: rest := by
  obtain ⟨cd, hcd, hm⟩ := any_some hc
  cases q : cd.mro with
  | nil => rw [q] at hm; cases hm
  | cons a r =>
    rw [q] at hm
    have e := beq_iff_eq.mp hm
    rw [List.head?_cons] at e
    cases e
    exact ⟨cd, r, hcd, q⟩
theorem left_K {fl : Bool} {Q : Value → Shared → Prop} (X : K.In s.heap) (I : InstAt s.heap x ox C od) (hb : Looks (model prog w) s.heap (typeOf b) (.type T)) (hc : selfFirst K C = true) (hs : findIn K (.ref C) (PySem.dunder op.info.2) = some (some (.ref f))) (hr : RadOk K C op.info.2)
    (hf : isFn K (.ref f) = true) (N : NumT T op.info.2 fl) (sub : subIn K (.type T) (.ref C) = some false) (h : wpAny (model prog w) A (call (.ref f) [.ref x, b]) (PySem.W.CmpBack Q) E s) : wpAny (model prog w) A (binaryOp op (.ref x) b) Q E s := by
  obtain ⟨cd, rest, hcd, hm⟩ := first_of hc
  have own : ∀ R : Option Value → Shared → Prop, (∀ v s', PySem.W.CmpBack Q v s' → v ≠ .notImplemented → R (some v) s') → wpAny (model prog w) A (tryMethod (.ref x) (PySem.dunder op.info.2) b) R E s := by
    intro R hR
    unfold tryMethod
    refine wpAny_bind (special_fn X I hs (beq_iff_eq.mp hf) (wpAny_mono h (fun v s' hv => ?_) fun _ _ e => e))
    have z := hR v s' hv
    cases v <;> first | exact hv.elim | exact wpAny_pure (z nofun)
  have back : ∀ v s', PySem.W.CmpBack Q v s' → v ≠ .notImplemented → Q v s' := fun v s' hv n => by
    cases v <;> first | exact hv.elim | exact hv
  obtain ⟨r, er⟩ := N.rad
  unfold binaryOp
  refine wpAny_holding (wpAny_bind ?_)
  unfold binaryOp1
  refine wpAny_bind (I.type.here (wpAny_bind (hb.here (wpAny_bind ((fills_K X hcd hm hs).here ?_)))))
  rw [if_neg (show ¬ ((Value.ref C == Value.type T) = true) from by rw [show (Value.ref C == Value.type T) = false from rfl]; decide)]
  refine wpAny_bind (wpAny_of_eq N.fills ?_)
  cases fl with
  | false =>
    simp only [Bool.and_false, Bool.false_eq_true, if_false, Bool.false_and]
    refine wpAny_bind (wpAny_pure ?_)
    simp only [Bool.false_eq_true, if_false]
    refine wpAny_bind (m := tryMethod (.ref x) _ b) (own _ fun v s' hv n => ?_)
    exact wpAny_pure (wpAny_pure (back v s' hv n))
  | true =>
    simp only [Bool.and_self, if_true]
    refine wpAny_bind (m := isSubtype _ _) ((looks_subIn X sub).here ?_)
    simp only [Bool.false_eq_true, if_false]
    refine wpAny_bind (m := numberSlotInPython _ _) ((py_slot X hs hr).here ?_)
    simp only [if_true]
    refine wpAny_bind (m := numberSlotInPython _ _) (wpAny_pure ?_)
    simp only [Bool.not_false, if_true]
    refine wpAny_bind (m := typeLookup _ _) (wpAny_of_eq er ?_)
    refine wpAny_bind (m := tryMethod (.ref x) _ b) (own _ fun v s' hv n => ?_)
    exact wpAny_pure (wpAny_pure (back v s' hv n))
/-- int.__add__ declines an instance -/
theorem int_no {i : Int} {t : Tok} {dx : Addr} (Q : Value → Shared → Prop) (at_ : s.heap.get? x = some (instObj C dx)) (q : Q .notImplemented s) : wpAny (model prog w) A (call (.builtin "int.__add__") [.int i t, .ref x]) Q E s := by
  refine wpAny_call (codeAny_call_builtin F.slot_int_add.plain F.entry_int_add (F.slot_int_add.check _ _ _ _ _ _ _ _ (typeIs_int s i t) (F.args_int_add_2 _ _) ?_))
  unfold instObj at at_
  obtain ⟨h0, g0, d0, t0, os0⟩ := s
  wp_walk using wpAny_loadPart' at_, wpAny_load at_
  first
    | exact q
    | exact ⟨_, rfl, q⟩
theorem bool_no {c : Bool} {dx : Addr} (Q : Value → Shared → Prop) (at_ : s.heap.get? x = some (instObj C dx)) (q : Q .notImplemented s) : wpAny (model prog w) A (call (.builtin "int.__add__") [.bool c, .ref x]) Q E s := by
  refine wpAny_call (codeAny_call_builtin F.slot_bool_add.plain F.entry_int_add (F.slot_bool_add.check _ _ _ _ _ _ _ _ rfl (F.args_int_add_2 _ _) ?_))
  unfold instObj at at_
  obtain ⟨h0, g0, d0, t0, os0⟩ := s
  wp_walk using wpAny_loadPart' at_, wpAny_load at_
  first
    | exact q
    | exact ⟨_, rfl, q⟩
/-- what stands left of the operator: it leaves it to the other side -/
def Leaves (prog : Program) (w : World) (T nm : String) (fl : Bool) (a : Value) (x : Addr) : Prop :=
  fl = true → ∀ (A : Around) (E : Value → Shared → Prop) (s : Shared) (C dx : Addr) (R : Option Value → Shared → Prop), s.heap.get? x = some (instObj C dx) → R none s → wpAny (model prog w) A (tryMethod a (PySem.dunder nm) (.ref x)) R E s
theorem leaves_no {T nm : String} {a : Value} : Leaves prog w T nm false a x := fun z => nomatch z
theorem leaves_int {i : Int} {t : Tok} : Leaves prog w "int" "add" true (.int i t) x := fun _ A E s C dx R at_ r => by
  unfold tryMethod callSpecial? specialOf
  refine wpAny_bind (wpAny_bind (wpAny_bind (wpAny_typeOf (typeIs_int s i t) (wpAny_of_eq F.slot_int_add.lookup ?_))))
  refine wpAny_holding (wpAny_bind (wpAny_of_eq (F.slot_int_add.bind _) (wpAny_bind (int_no _ at_ ?_))))
  exact wpAny_pure (wpAny_pure r)
theorem leaves_bool {c : Bool} : Leaves prog w "bool" "add" true (.bool c) x := fun _ A E s C dx R at_ r => by
  unfold tryMethod callSpecial? specialOf
  refine wpAny_bind (wpAny_bind (wpAny_bind (wpAny_typeOf (T := "bool") rfl (wpAny_of_eq F.slot_bool_add.lookup ?_))))
  refine wpAny_holding (wpAny_bind (wpAny_of_eq (F.slot_bool_add.bind _) (wpAny_bind (bool_no _ at_ ?_))))
  exact wpAny_pure (wpAny_pure r)
theorem right_K {fl : Bool} {a : Value} {g dx : Addr} {Q : Value → Shared → Prop} (X : K.In s.heap) (I : InstAt s.heap x ox C od) (at_ : s.heap.get? x = some (instObj C dx)) (ha : Looks (model prog w) s.heap (typeOf a) (.type T)) (hc : selfFirst K C = true) (hs : findIn K (.ref C) (PySem.dunder op.info.2) = some (some (.ref f)))
    (hr : findIn K (.ref C) (dunderR op.info.2) = some (some (.ref g))) (hg : isFn K (.ref g) = true) (N : fillsNumberSlot (.type T) op.info.2 = pure fl) (lv : Leaves prog w T op.info.2 fl a x) (sub : subIn K (.ref C) (.type T) = some false)
    (h : wpAny (model prog w) A (call (.ref g) [.ref x, a]) (PySem.W.CmpBack Q) E s) : wpAny (model prog w) A (binaryOp op a (.ref x)) Q E s := by
  obtain ⟨cd, rest, hcd, hm⟩ := first_of hc
  have own : ∀ R : Option Value → Shared → Prop, (∀ v s', PySem.W.CmpBack Q v s' → v ≠ .notImplemented → R (some v) s') → wpAny (model prog w) A (tryMethod (.ref x) (dunderR op.info.2) a) R E s := by
    intro R hR
    unfold tryMethod
    refine wpAny_bind (special_fn X I hr (beq_iff_eq.mp hg) (wpAny_mono h (fun v s' hv => ?_) fun _ _ e => e))
    have z := hR v s' hv
    cases v <;> first | exact hv.elim | exact wpAny_pure (z nofun)
  have back : ∀ v s', PySem.W.CmpBack Q v s' → v ≠ .notImplemented → Q v s' := fun v s' hv n => by
    cases v <;> first | exact hv.elim | exact hv
  unfold binaryOp
  refine wpAny_holding (wpAny_bind ?_)
  unfold binaryOp1
  refine wpAny_bind (ha.here (wpAny_bind (I.type.here (wpAny_bind (wpAny_of_eq N ?_)))))
  rw [if_neg (show ¬ ((Value.type T == Value.ref C) = true) from by rw [show (Value.type T == Value.ref C) = false from rfl]; decide)]
  refine wpAny_bind ((fills_K X hcd hm hs).here ?_)
  cases fl with
  | false =>
    simp only [Bool.and_true, Bool.false_eq_true, if_false, Bool.false_and]
    refine wpAny_bind (wpAny_pure ?_)
    simp only [Bool.false_eq_true, if_false, Bool.not_false, Bool.and_true, if_true]
    refine wpAny_bind (m := tryMethod (.ref x) _ a) (own _ fun v s' hv n => ?_)
    exact wpAny_bind (wpAny_rule (wpAny_pure (wpAny_pure (back v s' hv n))))
  | true =>
    simp only [Bool.and_self, if_true]
    refine wpAny_bind (m := isSubtype _ _) ((looks_subIn X sub).here ?_)
    simp only [Bool.false_eq_true, if_false]
    refine wpAny_bind (m := numberSlotInPython _ _) (wpAny_pure ?_)
    simp only [Bool.false_eq_true, if_false]
    refine wpAny_bind (m := tryMethod a _ (.ref x)) (lv rfl _ _ _ _ _ _ at_ ?_)
    simp only [Bool.not_false, if_true]
    refine wpAny_bind (m := tryMethod (.ref x) _ a) (own _ fun v s' hv n => ?_)
    exact wpAny_bind (wpAny_rule (wpAny_pure (wpAny_pure (back v s' hv n))))
end
theorem fills_no {T nm : String} {f r : Option Value} (h1 : typeLookup (.type T) (PySem.dunder nm) = pure f) (h2 : typeLookup (.type T) (dunderR nm) = pure r) (e : ((f.isSome && !isSeqSlot f) || (r.isSome && !isSeqSlot r)) = false) : fillsNumberSlot (.type T) nm = pure false := by
  unfold fillsNumberSlot
  dsimp only
  rw [h1, pure_bind, h2, pure_bind, e]
theorem num_str_add : NumT "str" "add" false := ⟨fills_no (f := some (.builtin "str.__add__")) (r := none) (by rw [typeLookup_type, builtinLookup_eq_fast]; kernel_rfl) (by rw [typeLookup_type, builtinLookup_eq_fast]; kernel_rfl) (by decide +kernel), ⟨none, by rw [typeLookup_type, builtinLookup_eq_fast]; kernel_rfl⟩⟩
theorem num_str_sub : NumT "str" "sub" false := ⟨fills_no (f := none) (r := none) (by rw [typeLookup_type, builtinLookup_eq_fast]; kernel_rfl) (by rw [typeLookup_type, builtinLookup_eq_fast]; kernel_rfl) (by decide +kernel), ⟨none, by rw [typeLookup_type, builtinLookup_eq_fast]; kernel_rfl⟩⟩
theorem num_tuple_add : NumT "tuple" "add" false := ⟨fills_no (f := some (.builtin "tuple.__add__")) (r := none) (by rw [typeLookup_type, builtinLookup_eq_fast]; kernel_rfl) (by rw [typeLookup_type, builtinLookup_eq_fast]; kernel_rfl) (by decide +kernel), ⟨none, by rw [typeLookup_type, builtinLookup_eq_fast]; kernel_rfl⟩⟩
theorem num_tuple_sub : NumT "tuple" "sub" false := ⟨fills_no (f := none) (r := none) (by rw [typeLookup_type, builtinLookup_eq_fast]; kernel_rfl) (by rw [typeLookup_type, builtinLookup_eq_fast]; kernel_rfl) (by decide +kernel), ⟨none, by rw [typeLookup_type, builtinLookup_eq_fast]; kernel_rfl⟩⟩
theorem num_list_add : NumT "list" "add" false := ⟨fills_no (f := some (.builtin "list.__add__")) (r := none) (by rw [typeLookup_type, builtinLookup_eq_fast]; kernel_rfl) (by rw [typeLookup_type, builtinLookup_eq_fast]; kernel_rfl) (by decide +kernel), ⟨none, by rw [typeLookup_type, builtinLookup_eq_fast]; kernel_rfl⟩⟩
theorem num_list_sub : NumT "list" "sub" false := ⟨fills_no (f := none) (r := none) (by rw [typeLookup_type, builtinLookup_eq_fast]; kernel_rfl) (by rw [typeLookup_type, builtinLookup_eq_fast]; kernel_rfl) (by decide +kernel), ⟨none, by rw [typeLookup_type, builtinLookup_eq_fast]; kernel_rfl⟩⟩
theorem num_int_add : NumT "int" "add" true := ⟨F.fills_int_add, ⟨some (.builtin "int.__radd__"), by rw [typeLookup_type, builtinLookup_eq_fast]; kernel_rfl⟩⟩
theorem num_int_sub : NumT "int" "sub" true := ⟨F.fills_int_sub, ⟨some (.builtin "int.__rsub__"), by rw [typeLookup_type, builtinLookup_eq_fast]; kernel_rfl⟩⟩
theorem num_bool_add : NumT "bool" "add" true := ⟨F.fills_bool_add, ⟨some (.builtin "int.__radd__"), by rw [typeLookup_type, builtinLookup_eq_fast]; kernel_rfl⟩⟩
theorem num_bool_sub : NumT "bool" "sub" true := ⟨F.fills_bool_sub, ⟨some (.builtin "int.__rsub__"), by rw [typeLookup_type, builtinLookup_eq_fast]; kernel_rfl⟩⟩
/-! ### the operators at the slots as they stand -/
/-- x op y, x an instance, y of a built-in type -/
def rLeft (K : PySem.W.Frag) (C : Addr) (nm : String) (sp : Sp) (E : XK) : R2 := fun x y H Q => ∃ a dx fs T fl, x = .ref a ∧ H a = some (.ins C dx fs) ∧ TyX K H y (.type T) ∧ NumT T nm fl ∧ PySem.W.subIn K (.type T) (.ref C) = some false ∧ sp [.ref a, y] H Q E
def LvV (x : V) (T nm : String) (fl : Bool) : Prop := fl = false ∨ nm = "add" ∧ ((∃ i, x = .int i ∧ T = "int") ∨ ∃ b, x = .bl b ∧ T = "bool")
/-- y op x, y of a built-in type, x an instance -/
def rRight (K : PySem.W.Frag) (C : Addr) (nm : String) (sp : Sp) (E : XK) : R2 := fun x y H Q => ∃ a dx fs T fl, y = .ref a ∧ H a = some (.ins C dx fs) ∧ TyX K H x (.type T) ∧ NumT T nm fl ∧ LvV x T nm fl ∧ PySem.W.subIn K (.ref C) (.type T) = some false ∧ sp [.ref a, x] H Q E
def tOpS (r : L2.St → R2) (ta tb : TE) : TE := fun σ H Q => ta σ H fun x H1 => tb σ H1 fun y H2 => r σ x y H2 Q
section
variable {X : Cx} {W : WX} {k j : Nat} {C : Addr} {sp : Sp} {op : Operator} {e o : Expr} {ta tb : TE} {pos : Pos}
/-- what an operator of the class must be -/
structure Bin (K : PySem.W.Frag) (C : Addr) (nm : String) : Prop where
  sf : PySem.W.selfFirst K C = true
  rad : RadOk K C nm
theorem pe_left (c : Met X.prog X.w X.K X.mg X.base (L2.CX X.prog X.w) k C (PySem.dunder op.info.2) sp) (B : Bin X.K C op.info.2) (tk : Takes X W) (hr : Room j X.A) (hk : k ≤ j) (ha : PE X o ta) (hb : PE X e tb) : PE X (.BinOp o op e pos) (tOpS (fun σ => rLeft X.K C op.info.2 sp (WE W σ)) ta tb) := by
  obtain ⟨f, fd, ps, F, a0, i0, kp, b⟩ := c.ex
  refine ⟨fun pins s σ H Q I h => wpAny_BinOp (binT (R := fun x y H2 => rLeft X.K C op.info.2 sp (WE W σ) x y H2 Q) ha hb I h fun v u s2 x y H2 I2 rx ry q => ?_)⟩
  obtain ⟨a, dx, fs, T, fl, rfl, ea, ty, N, sub, q⟩ := q
  cases rx
  obtain ⟨mA, J0, _⟩ := ins_get I2.hok ea
  obtain ⟨od, J, _⟩ := J0.look
  obtain ⟨P, Z, p, _⟩ := kit_of I2 ry ty
  refine left_K I2.kIn J (Z.ty _ _ I2.kIn p) B.sf a0 B.rad i0 N sub ?_
  exact wpAny_mono (run_fnS (E := WE W) (us := [.ref a, u]) (vs := [.ref a, y]) F (hr.mono hk) b (passAt tk σ) I2 (.cons rfl (.cons ry .nil)) q) (fun _ _ z => back_of z) fun _ _ z => z
theorem pe_right (c : Met X.prog X.w X.K X.mg X.base (L2.CX X.prog X.w) k C (dunderR op.info.2) sp) (B : Bin X.K C op.info.2) {f : Addr} (own : PySem.W.findIn X.K (.ref C) (PySem.dunder op.info.2) = some (some (.ref f))) (tk : Takes X W) (hr : Room j X.A) (hk : k ≤ j) (ha : PE X e ta) (hb : PE X o tb) : PE X (.BinOp e op o pos) (tOpS (fun σ => rRight X.K C op.info.2 sp (WE W σ)) ta tb) := by
  obtain ⟨g, fd, ps, F, a0, i0, kp, b⟩ := c.ex
  refine ⟨fun pins s σ H Q I h => wpAny_BinOp (binT (R := fun x y H2 => rRight X.K C op.info.2 sp (WE W σ) x y H2 Q) ha hb I h fun v u s2 x y H2 I2 rx ry q => ?_)⟩
  obtain ⟨a, dx, fs, T, fl, rfl, ea, ty, N, lv, sub, q⟩ := q
  cases ry
  obtain ⟨mA, J0, _⟩ := ins_get I2.hok ea
  obtain ⟨od, J, _⟩ := J0.look
  obtain ⟨P, Z, p, _⟩ := kit_of I2 rx ty
  have lv' : Leaves X.prog X.w T op.info.2 fl v a := by
    rcases lv with e | ⟨e, ⟨i, e1, e2⟩ | ⟨c, e1, e2⟩⟩
    · subst e; exact leaves_no
    · rw [e]
      subst e1 e2
      obtain ⟨t, rfl⟩ := rx
      exact fun _ => leaves_int rfl
    · rw [e]
      subst e1 e2
      cases rx
      exact fun _ => leaves_bool rfl
  refine right_K I2.kIn J J0.obj (Z.ty _ _ I2.kIn p) B.sf own a0 i0 N.fills lv' sub ?_
  exact wpAny_mono (run_fnS (E := WE W) (us := [.ref a, v]) (vs := [.ref a, x]) F (hr.mono hk) b (passAt tk σ) I2 (.cons rfl (.cons rx .nil)) q) (fun _ _ z => back_of z) fun _ _ z => z
end
/-! ### the truth of an instance -/
theorem pt_own {X : Cx} {k j : Nat} {C : Addr} {sp : Sp} {a : Expr} {ta : TE} (c : Met X.prog X.w X.K X.mg X.base CX0 k C "__bool__" sp) (hr : Room j X.A) (hk : k ≤ j) (ha : PE X a ta) (he : ∀ whole, isTrue a X.env whole = (do let v ← whole; standAt a.pos; holding [v] (truthy v)) := by intro _; rfl) :
    PT X a (fun σ H Q => ta σ H fun x H' => ∃ p dx fs, x = .ref p ∧ H' p = some (.ins C dx fs) ∧ sp [.ref p] H' (fun v H2 => ∃ b, v = .bl b ∧ Q b H2) E0) := by
  refine ⟨fun pins s σ H Q I h => isTrue_plain (thn (ha.run pins s σ H _ I h) fun v s1 ⟨x, H1, I1, r1, q1⟩ => ?_) (he _)⟩
  obtain ⟨p, dx, fs, rfl, ea, q⟩ := q1
  cases r1
  obtain ⟨f, fd, ps, F, ini, fn, kp, b⟩ := c.ex
  obtain ⟨mA, J, _⟩ := ins_get I1.hok ea
  obtain ⟨od, J, _⟩ := J.look
  obtain ⟨m, hF⟩ := I1.fr
  refine PySem.W.truthy_K hF I1.ok.mod.kin J ini fn ?_
  refine wpAny_mono (run_fn (us := [.ref p]) (vs := [.ref p]) F (hr.mono hk) b .nil pass0 I1 (.cons rfl .nil) q) (fun u s2 z => ?_) fun _ _ z => z
  obtain ⟨w', H2, I2, rw', bb, rfl, q3⟩ := z
  cases rw'
  exact ⟨H2, I2, q3⟩
/-! ### C.m(e), m a classmethod that may raise -/
open ClX in
theorem pe_cmS {X : Cx} {W : WX} {k j : Nat} {C : Addr} {mc : Value} {m : Str} {sp : Sp} {o e : Expr} {es : List Expr} {ta : TE} {t : TA} {pos apos : Pos} {pl : Sem Bool} (c : Cmt X.prog X.w X.K X.mg X.base (L2.CX X.prog X.w) k C mc m sp) (tk : Takes X W) (hr : Room j X.A) (hk : k ≤ j) (he : PE X o ta) (ha : PA X (e :: es) t)
    (hst : starEach (e :: es) X.env = (false, eval e X.env) :: starEach es X.env := by rfl) (hpl : (backTo pos (starEach es X.env)).any (·.1) = false := by rfl)
    (ht : eval (.Call (.Attribute o m apos) (e :: es) [] pos) X.env = (do
      let ov ← eval o X.env
      standAt apos.atName
      let (f, first) ← holding [ov] (getMethod ov m pl)
      callWith pos f first (backTo pos (starEach (e :: es) X.env)) (backToKw pos (keywordEach [] X.env))) := by rfl) :
    PE X (.Call (.Attribute o m apos) (e :: es) [] pos) (fun σ H Q => ta σ H fun x H1 => x = .ref C ∧ t σ H1 fun vs H2 => sp (.ref C :: vs) H2 Q (WE W σ)) := by
  obtain ⟨q0, f, fd, ps, F, r, a, b⟩ := c.ex
  refine ⟨fun pins s σ H Q I h => PySem.W.methodCall_KW (pl := pl) (thn (he.run pins s σ H _ I h) fun u s1 ⟨x, H1, I1, rx, ex, q⟩ => ?_) ht⟩
  subst ex
  obtain rfl : u = Value.ref C := rx
  refine getmethcm_ok I1 r a fun s2 I2 => ?_
  refine callwith_cm I2 (base_none I1 (Nat.le_refl _)) a.fi (thn (ha.run pos _ s2 σ H1 _ I2 q) fun us s3 ⟨vs, H2, I3, rv, q2⟩ => ⟨⟨pin_at I3, I3.kIn⟩, ?_⟩) hst hpl
  have rr : Vals (V.ref C :: vs) (Value.ref C :: us) := .cons rfl rv
  have ln : (Value.ref C :: us).length = ps.length := rr.length.symm.trans (F.len _ _ _ _ q2)
  have bd := b s3 (Value.ref C :: us) I3.kIn (by rw [List.append_nil]; exact ln)
  rw [List.append_nil] at bd
  have run := F.run X.A X.stack s3 H2 ⟨Value.ref C :: us, []⟩ _ _ _ (WE W σ) (hr.mono hk) I3.env0 bd rr q2
  have z : wpAny (model X.prog X.w) X.A (call (.ref s1.heap.objs.size) us) (EP X ((s1.heap.objs.size, PySem.W.methodObj (.ref f) (.ref C)) :: pins) σ Q) X.xe s3 :=
    wpAny_call (PySem.W.method_call (pin_at I3) (codeAny_mono run fun o s4 z => match o, z with
      | .error err, z => passAt tk σ _ _ _ err s4 I3 z
      | .ok (.ret u), z => I3.after z))
  exact thn z fun _ _ y => unpinE y
section
variable {P : Program} {w : World} {K : PySem.W.Frag} {mg : Str → Option Value} {base : Heap} {k : Nat} {C : Addr} {mc : Value} {m qual : Str} {st : Stmt} {N ps : List Str} {sp : Sp}
theorem CmtK.cmtX (D : CmtK K C mc m qual st) (S : FnScope N ps (defScope st)) (b : BindOk m qual st ps) (len : ∀ vs H Q E, sp vs H Q E → vs.length = ps.length) (hb : ∀ f, BodyX P w K mg base N qual st f k sp) : Cmt P w K mg base (L2.CX P w) (k + 1) C mc m sp :=
  let ⟨p, f, fd, F, r, a⟩ := D.ex
  ⟨p, f, fd, ps, F.okX S len (hb f), r, a, F.binds b⟩
end
/-! ### str(x) by an own __str__ -/
theorem str_in {prog : Program} {w : World} (x : Value) : MeetsIn prog w (Builtin.«str.__new__» ⟨[.type "str", x], []⟩) fun A R s => wpAny (model prog w) A.in1 (Builtin.Str.strOf x) (fun v s' => R (.ok (.ret v)) s') (fun e s' => R (.error e) s') s := by
  intro A R s h
  rw [str_new_tree x]
  refine wpAny_bind (wpAny_pure (wpAny_bind (wpAny_of_eq isSubtype_str_str ?_)))
  exact wpAny_bind (wpAny_mono h (fun v s' z => wpAny_pure z) fun _ _ z => z)
def rStrO (C : Addr) (sp : Sp) (E : XK) : List V → Hp → VK → Prop := fun xs H Q => ∃ a dx fs, xs = [.ref a] ∧ H a = some (.ins C dx fs) ∧ sp [.ref a] H (fun v H' => ∃ z, v = .str z ∧ Q (.str z) H') E
theorem call_strO {X : Cx} {k j : Nat} {C : Addr} {sp : Sp} (c : Met X.prog X.w X.K X.mg X.base CX0 k C "__str__" sp) (hr : Room j X.A) (hk : k + 2 ≤ j) : CallR X (.type "str") (rStrO C sp E0) := by
  intro pins s σ H xs us Q I r h
  obtain ⟨a, dx, fs, rfl, ea, q⟩ := h
  obtain rfl := Vals.ref1 r
  obtain ⟨f, fd, ps, F, ini, fn, kp, b⟩ := c.ex
  obtain ⟨mA, J, _⟩ := ins_get I.hok ea
  obtain ⟨od, J, _⟩ := J.look
  have rv : Vals [V.ref a] [Value.ref a] := .cons rfl .nil
  have ln : [Value.ref a].length = ps.length := rv.length.symm.trans (F.len _ _ _ _ q)
  have bd := b s [Value.ref a] I.kIn (by rw [List.append_nil]; exact ln)
  rw [List.append_nil] at bd
  have rm : Room (k + 2) X.A := hr.mono hk
  have run := F.run X.A.in1.in1 X.stack s H ⟨[Value.ref a], []⟩ _ _ _ E0 rm.in1.in1 I.env0.in1.in1 bd rv q
  refine callType_newIn PySem.F.called_str (by decide) (PySem.F.typeCall_str_1 _) (PySem.F.newCall_str_1 _) (fun obj => PySem.F.args_object_init_2 obj _) PySem.F.entry_str_new (str_in _) ?_
  unfold Builtin.Str.strOf
  refine wpAny_bind (wpAny_cRoomFor (Nat.lt_of_le_of_lt (by show X.A.units + 2 ≤ X.A.units + 64; omega) hr.units) ?_)
  refine wpAny_bind (special_fn I.kIn J ini (beq_iff_eq.mp fn) (wpAny_call (codeAny_mono run fun o s2 z => ?_)))
  match o, z with
  | .error err, z => exact z.elim
  | .ok (.ret u), z =>
    obtain ⟨v, H2, J3, rv3, zz, rfl, q3⟩ := I.after z
    obtain ⟨t, rfl⟩ := rv3
    refine wpAny_bind (wpAny_pure ?_)
    exact wpAny_pure ⟨typeIs_str _ _ _, .str zz, H2, J3, ⟨_, rfl⟩, q3⟩
end Jg

/-! texts: list(text), text * number, text.replace of written texts behind another written text -/
namespace Jg
open PySem PySem.Spec PyProof.Rows L2
section
variable {X : Cx}
/-- list(text): its signs -/
theorem call_listS (hc : X.calm = true) : CallR X (.type "list") (fun xs H Q => ∃ z : Str, xs = [.str z] ∧ z.length ≤ sizeLine ∧ ∀ p, H p = none → Q (.ref p) (upd H p (.lst (z.cps.toList.map fun c => V.str ⟨#[c]⟩)))) := by
  intro pins s σ H xs us Q I r h
  obtain ⟨z, rfl, hz, q⟩ := h
  obtain ⟨u, rfl, rx⟩ := vals1 r
  obtain ⟨t, rfl⟩ := rx
  refine PySem.call_list_str (hn := hz) (I.ok.hd hc) z t fun h' tk acc c' hk e hi => ?_
  refine ⟨.ref s.heap.objs.size, upd H s.heap.objs.size (.lst (z.cps.toList.map fun c => V.str ⟨#[c]⟩)), I.laid hk (Nat.le_refl _) ⟨by rw [List.length_map, Array.length_toList]; exact hz, acc.toList, c', ?_, by rw [Array.toArray_toList]; exact e⟩, rfl, q _ (I.hok.fresh (Nat.le_refl _))⟩
  refine vals_of_idx _ _ (by rw [List.length_map, Array.length_toList, Array.length_toList]; exact hi.1) fun j u hj => ?_
  obtain ⟨c, t', hc, rfl⟩ := hi.2 j u (by rw [← Array.getElem?_toList]; exact hj)
  exact ⟨.str ⟨#[c]⟩, by rw [List.getElem?_map, Array.getElem?_toList, hc]; rfl, ⟨_, rfl⟩⟩
/-- text * number -/
def timesT (z : Str) (n : Int) : Str := ⟨(List.replicate n.toNat z.cps).foldl (· ++ ·) #[]⟩
theorem op_mul_str : OpR X (binaryOp .Mult) (fun x y H Q => ∃ (z : Str) (n : Int), x = .str z ∧ y = .int n ∧ 2 ≤ n ∧ n ≤ 100000 ∧ z.length = 1 ∧ Q (.str (timesT z n)) H) := by
  intro pins s σ H x y v u Q I rx ry h
  obtain ⟨z, n, rfl, rfl, h1, h2, hz, q⟩ := h
  obtain ⟨t, rfl⟩ := rx
  obtain ⟨t', rfl⟩ := ry
  have e1 : decide (n < -(2 ^ 63 : Int)) = false := decide_eq_false (by omega)
  have e2 : decide (n ≥ 2 ^ 63) = false := decide_eq_false (by omega)
  have e3 : (n == 1 || z.length == 0) = false := by
    rw [hz, Bool.or_eq_false_iff]
    exact ⟨beq_eq_false_iff_ne.mpr (by omega), rfl⟩
  have fl : ∀ (k : Nat) (a : Array Nat), ((List.replicate k z.cps).foldl (· ++ ·) a).size = a.size + k := by
    intro k
    induction k with
    | zero => intro a; rfl
    | succ k ih =>
      intro a
      rw [List.replicate_succ, List.foldl_cons, ih, Array.size_append]
      have : z.cps.size = 1 := hz
      omega
  have sz : (timesT z n).length ≤ sizeLine := by
    show ((List.replicate n.toNat z.cps).foldl (· ++ ·) #[]).size ≤ sizeLine
    rw [fl, sizeLine_eq]
    show 0 + n.toNat ≤ _
    omega
  refine PySem.P.mul_str (by rw [e1, e2]; rfl) (fun _ _ => ?_) (fun _ _ => ?_) ?_
  · rw [hz]
    have : (2 ^ 63 - 1) / n ≥ 1 := by
      have : (1 : Int) * n ≤ 2 ^ 63 - 1 := by omega
      exact (Int.le_ediv_iff_mul_le (by omega)).mpr this
    omega
  · unfold PySem.Builtin.Str.tooLong
    rw [hz, sizeLine_eq]
    exact decide_eq_false (by omega)
  · rw [if_neg (by omega), if_neg (by rw [e3]; decide)]
    exact ⟨sz, ⟨.str (timesT z n), H, I.tok _, ⟨_, rfl⟩, q⟩⟩
/-! ### a written text was read: a token is out -/
def PE1 (X : Cx) (e : Expr) (t : TE) : Prop :=
  ∀ (pins : List (Addr × Obj)) (s : Shared) (σ : L2.St) (H : Hp) (Q : VK), Inv X pins σ H s → t σ H Q → wpAny (model X.prog X.w) X.A (eval e X.env) (fun u s' => 1 ≤ s'.toks ∧ EP X pins σ Q u s') X.xe s
theorem pe1_op {op : Operator} {r : R2} {a : Expr} {c : Str} {j : Nat} {cp pos : Pos} {ta : TE} (ho : OpR X (binaryOp op) r) (ha : PE X a ta) : PE1 X (.BinOp a op (.Constant (.str c) j cp) pos) (tOp r ta (tC (.str c))) := by
  intro pins s σ H Q I h
  refine wpAny_BinOp (thn (ha.run pins s σ H _ I h) fun v s1 ⟨x, H1, I1, r1, q1⟩ => Calls.Constant_str ?_)
  refine wpAny_mono (PySem.wpAny_toks_of (n := 1) (by show 1 ≤ s1.toks + 1; omega) (ho pins { s1 with toks := s1.toks + 1 } σ H1 x (.str c) v (.str c s1.toks) Q (I1.tok _) r1 ⟨_, rfl⟩ q1)) (fun _ _ z => z) fun _ _ z => z.2
theorem pet_of {e : Expr} {t : TE} (h : PE X e t) : PET X e t := fun pins s σ H Q _ I q => h.run pins s σ H Q I q
theorem pa_tok {e : Expr} {es : List Expr} {te : TE} {ta : TA} (ha : PE1 X e te) (hr : PAT X es ta) (hs : starEach (e :: es) X.env = (false, eval e X.env) :: starEach es X.env := by rfl) : PA X (e :: es) (tCons te ta) := by
  refine ⟨fun pos pins s σ H Q I h => ?_⟩
  rw [hs]
  show wpAny _ _ (spliced ((false, eval e X.env) :: backTo pos (starEach es X.env))) _ _ s
  refine Calls.spliced_cons (thn (ha pins s σ H _ I h) fun u s1 ⟨hk, x, H1, I1, r1, q1⟩ => ?_)
  exact thn (hr pos pins s1 σ H1 _ hk I1 q1) fun us s2 ⟨xs, H2, I2, r2, q2⟩ => ⟨x :: xs, H2, I2, .cons r1 r2, q2⟩
def tRepl (y z : Str) (to : TE) : TE := fun σ H Q => to σ H fun x H1 => ∃ a : Str, x = .str a ∧ a.length + (a.length + 1) * z.length ≤ 16777216 ∧ Q (.str (Txt.replace a y z)) H1
theorem pet_repl {o : Expr} {y z : Str} {j0 j1 : Nat} {c0 c1 apos pos : Pos} {to : TE} (ho : PE X o to) (hyz : (y == z) = false)
    (hst : starEach [.Constant (.str y) j0 c0, .Constant (.str z) j1 c1] X.env = [(false, eval (.Constant (.str y) j0 c0) X.env), (false, eval (.Constant (.str z) j1 c1) X.env)] := by rfl)
    (hbase : attributeBase o "replace" X.env (eval o X.env) = eval o X.env := by rfl) (hline : (apos.endLine == pos.line) = true := by rfl) :
    PET X (.Call (.Attribute o "replace" apos) [.Constant (.str y) j0 c0, .Constant (.str z) j1 c1] [] pos) (tRepl y z to) := by
  intro pins s σ H Q h0 I h
  refine PySem.Call_method2 hbase hst hline (wpAny_mono (PySem.wpAny_toks_of (n := 1) h0 (ho.run pins s σ H _ I h)) (fun v s1 q => ?_) fun _ _ x => x.2)
  obtain ⟨hk, x, H1, I1, r1, a, rfl, hb, q⟩ := q
  obtain ⟨tx, rfl⟩ := r1
  refine ⟨"str", _, F.plainAttrs_str, F.slot_str_replace, F.type_str_replace, typeIs_str _ _ _, (fun _ e => nomatch e), Calls.callWith_builtin rfl (Calls.evalArgs_plain (Calls.spliced_cons ?_))⟩
  refine Calls.Constant_str (Calls.spliced_cons (Calls.Constant_str (Calls.spliced_nil ?_)))
  exact PySem.SC.replace (t := tx) (show s1.toks ≠ 0 by omega) (show s1.toks + 1 ≠ 0 by omega) (show s1.toks ≠ s1.toks + 1 by omega) hyz hb fun t' k => ⟨.str (Txt.replace a y z), H1, I1.tok k, ⟨t', rfl⟩, q⟩
end
end Jg

/-! set(words) of a list of texts; sorted and len of it -/
namespace Jg
open PySem PySem.Spec PyProof.Rows L2
def wKey (e : Int × Value) : Str := match e.2 with | .str z _ => z | _ => Str.empty
def IsW (P : Program) (w : World) (e : Int × Value) : Prop := ∃ z tk, e.2 = Value.str z tk ∧ e.1 = (strKind P w).hash z
/-- the set of the texts zs, each once, in any order -/
def SetW (P : Program) (w : World) (h : Heap) (a : Addr) (zs : List Str) : Prop := ∃ o es ep t, h.get? a = some o ∧ o.ExactSet ∧ o.data = .set es ep t ∧ (∀ e ∈ es.toList, IsW P w e) ∧ (es.toList.map wKey).Perm zs ∧ zs.Nodup ∧ zs.length < scanBound ∧
  t.fits es.size = true ∧ Ris t.place.toList ∧ (w.params.followText "set-order" = true ∨ t.led = true)
section
variable {P : Program} {w : World} {h h' : Heap} {a : Addr} {zs : List Str}
theorem SetW.move (R : SetW P w h a zs) (k : ∀ o, h.get? a = some o → h'.get? a = some o) : SetW P w h' a zs :=
  let ⟨o, es, ep, t, ho, r⟩ := R
  ⟨o, es, ep, t, k o ho, r⟩
theorem SetW.cast {ys : List Str} (R : SetW P w h a zs) (e : zs = ys) : SetW P w h a ys := e ▸ R
theorem isW_key {e : Int × Value} (g : IsW P w e) (z : Str) : (strKind P w).is z e.2 = true ↔ wKey e = z := by
  obtain ⟨y, tk, e2, _⟩ := g
  have e3 : wKey e = y := by unfold wKey; rw [e2]
  rw [e3, e2]
  constructor
  · exact fun q => (strKind P w).inj _ _ _ (strKind_is P w y tk) q
  · intro q
    rw [← q]
    exact strKind_is P w y tk
theorem isW_elems {l : List (Int × Value)} (g : ∀ e ∈ l, IsW P w e) : ElemsOf (strKind P w) l := fun e he =>
  let ⟨z, tk, e1, e2⟩ := g e he
  ⟨⟨z, e1 ▸ strKind_is P w z tk, e2⟩, by rw [e1]; rfl⟩
end
section
variable {P : Program} {w : World} {A : Around} {E : Value → Shared → Prop} {s : Shared} {a : Addr} {zs : List Str}
/-- the entries are laid, the table may grow -/
theorem setW_lay {f : Bool → Sem Unit} (pf : ∀ (b : Bool) (s1 : Shared) (K : Unit → Shared → Prop), K () s1 → wpAny (model P w) A (f b) K E s1) {o : Obj} {es xs : Array (Int × Value)} {ep : Nat} {t t2 : SetTable} {ys : List Str} (at_ : s.heap.get? a = some o) (ex : o.ExactSet)
    (dt : o.data = .set es ep t) (gd : ∀ e ∈ xs.toList, IsW P w e) (pm : (xs.toList.map wKey).Perm ys) (nd : ys.Nodup) (few : ys.length < scanBound) (ft : t2.fits xs.size = true) (ri : Ris t2.place.toList) (ld : w.params.followText "set-order" = true ∨ t2.led = true) {dum : Bool}
    {R : Option Bool → Shared → Prop} (k : ∀ h', Heap.SameBut a s.heap h' → SetW P w h' a ys → R (some true) { s with heap := h' }) :
    wpAny (model P w) A (do
        storeSet a xs t2
        if (!dum && t2.tooFull) = true then do
            f (relayAll t2 xs (SetTable.grown xs.size)).2.2
            storeSet a (relayAll t2 xs (SetTable.grown xs.size)).1 (relayAll t2 xs (SetTable.grown xs.size)).2.1
            pure (some true)
          else pure (some true)) R E s := by
  have many : ∀ u : Array (Int × Value), (u.toList.map wKey).Perm ys → u.size < scanBound := fun u q => by
    have z := q.length_eq
    rw [List.length_map, Array.length_toList] at z
    omega
  refine wpAny_bind (wpAny_storeSet_of at_ dt ?_ (fits_of_scanBound (many xs pm)))
  have w1 := store_at (es' := xs) (t' := t2) at_ dt
  have same1 := Heap.SameBut.update s.heap a (Obj.putSet xs t2)
  split
  · have q1 := relayAll_perm t2 xs (SetTable.grown xs.size)
    have q2 := relayAll_fits t2 xs (SetTable.grown xs.size)
    have q3 := relayAll_ris t2 xs (SetTable.grown xs.size)
    have q4 := relayAll_led t2 xs (SetTable.grown xs.size)
    revert q1 q2 q3 q4
    generalize relayAll t2 xs (SetTable.grown xs.size) = Y
    obtain ⟨us, t3, gv⟩ := Y
    intro q1 q2 q3 q4
    have pm2 : (us.toList.map wKey).Perm ys := (q1.map wKey).trans pm
    refine wpAny_bind (pf _ _ _ (wpAny_bind (wpAny_storeSet_of w1 rfl ?_ (fits_of_scanBound (many us pm2)))))
    refine wpAny_pure (k _ (same1.trans (Heap.SameBut.update _ a _)) ⟨_, us, _, t3, store_at (es' := us) (t' := t3) w1 rfl, ex, rfl, fun e he => gd e (q1.mem_iff.mp he), pm2, nd, few, q2, q3, ?_⟩)
    rcases ld with l | l
    · exact .inl l
    · exact .inr (by rw [← l]; exact q4)
  · exact wpAny_pure (k _ same1 ⟨_, xs, _, t2, w1, ex, rfl, gd, pm, nd, few, ft, ri, ld⟩)
theorem setW_add {z : Str} {tk : Tok} {Q : Bool → Shared → Prop} (R : SetW P w s.heap a zs) (room : zs.length + 1 < scanBound) (k : ∀ b h', Heap.SameBut a s.heap h' → SetW P w h' a (if z ∈ zs then zs else z :: zs) → Q b { s with heap := h' }) :
    wpAny (model P w) A (setAddHashed a (.str z tk) ((strKind P w).hash z)) Q E s := by
  obtain ⟨o, es, ep, t, at_, ex, dt, gd, pm, nd, few, ft, ri, ld⟩ := id R
  have el := isW_elems gd
  have small : es.size < scanBound := by
    have q := pm.length_eq
    rw [List.length_map, Array.length_toList] at q
    omega
  have sc : (Value.str z tk).scannable = true := rfl
  have isz : (strKind P w).is z (.str z tk) = true := strKind_is P w z tk
  unfold setAddHashed setAddHashedIn
  refine wpAny_holding (wpAny_bind (wpAny_setState_of at_ dt ft ?_))
  dsimp only
  rw [byScan_of sc small el]
  simp only [↓reduceIte]
  unfold setAddByScan
  refine wpAny_bind (wpAny_bind (wpAny_rule (wpAny_bind (wpAny_setScan_of isz at_ dt ft el ?_))))
  cases fi : List.findIdx? (fun e => (strKind P w).is z e.2) es.toList with
  | some j =>
    dsimp only
    obtain ⟨lt, yes, _⟩ := List.findIdx?_eq_some_iff_getElem.mp fi
    have mem : z ∈ zs := pm.mem_iff.mp (List.mem_map.mpr ⟨_, List.getElem_mem lt, (isW_key (gd _ (List.getElem_mem lt)) z).mp yes⟩)
    exact wpAny_pure (wpAny_pure (k _ s.heap (Heap.SameBut.refl a s.heap) (R.cast (if_pos mem).symm)))
  | none =>
    dsimp only
    have out : z ∉ zs := fun m => by
      obtain ⟨e, he, q⟩ := List.mem_map.mp (pm.mem_iff.mpr m)
      have c := List.findIdx?_eq_none_iff.mp fi e he
      rw [(isW_key (gd e he) z).mpr q] at c
      cases c
    rw [if_neg out] at k
    have q1 := layNew_perm t es ((strKind P w).hash z) (.str z tk)
    have q2 := layNew_fits t es ((strKind P w).hash z) (.str z tk)
    have q3 := layNew_ris t es ((strKind P w).hash z) (.str z tk) ri
    have q4 := layNew_led t es ((strKind P w).hash z) (.str z tk)
    revert q1 q2 q3 q4
    generalize layNew t es ((strKind P w).hash z) (.str z tk) = Y
    obtain ⟨xs, t1, dum, gv⟩ := Y
    intro q1 q2 q3 q4
    have pc : xs.toList.Perm (((strKind P w).hash z, Value.str z tk) :: es.toList) := by
      have q := q1
      rw [Array.toList_push] at q
      exact q.trans (List.perm_append_singleton _ _)
    have pz : (xs.toList.map wKey).Perm (z :: zs) := (pc.map wKey).trans (List.Perm.cons z pm)
    have gd2 : ∀ e ∈ xs.toList, IsW P w e := fun e he => (List.mem_cons.mp (pc.mem_iff.mp he)).elim (fun q => q ▸ ⟨z, tk, rfl, rfl⟩) (gd e)
    have ld2 : w.params.followText "set-order" = true ∨ t1.led = true := ld.elim .inl fun l => .inr (by rw [← l]; exact q4)
    have few2 : (z :: zs).length < scanBound := room
    refine wpAny_bind ?_
    refine (fun (m : ∀ {K : Unit → Shared → Prop}, K () s → wpAny (model P w) A _ K E s) (r : _) => m r) (fun q => by cases gv <;> first | exact wpAny_pure q | exact wpAny_rule q) ?_
    split
    · refine wpAny_bind ?_
      rw [hashByValue_scannable 8 sc]
      refine wpAny_pure (setW_lay (fun b s1 K q => by cases b <;> first | exact wpAny_pure q | exact wpAny_rule q) at_ ex dt gd2 pz (List.nodup_cons.mpr ⟨out, nd⟩) few2 ?_ ?_ ?_ fun h' sb r => wpAny_pure (k _ h' sb r))
      · first | (split <;> first | exact q2 | exact SetTable.fits_plain_off q2) | exact q2
      · first | (split <;> exact q3) | exact q3
      · first | (split <;> exact ld2) | exact ld2
    · refine wpAny_bind (wpAny_pure ?_)
      simp only [↓reduceIte]
      exact setW_lay (fun b s1 K q => by cases b <;> first | exact wpAny_pure q | exact wpAny_rule q) at_ ex dt gd2 pz (List.nodup_cons.mpr ⟨out, nd⟩) few2 q2 q3 ld2 fun h' sb r => wpAny_pure (k _ h' sb r)
end
/-- each text once -/
def addW (l : List Str) (z : Str) : List Str := if z ∈ l then l else z :: l
def onceW (ks : List Str) : List Str := ks.foldl addW []
theorem addW_len (l : List Str) (z : Str) : (addW l z).length ≤ l.length + 1 := by
  unfold addW
  split
  · omega
  · exact Nat.le_refl _
theorem fold_len : ∀ (ks l : List Str), (ks.foldl addW l).length ≤ l.length + ks.length
  | [], l => Nat.le_refl _
  | z :: r, l => by
    have h1 := fold_len r (addW l z)
    have h2 := addW_len l z
    rw [List.foldl_cons, List.length_cons]
    omega
theorem onceW_len (ks : List Str) : (onceW ks).length ≤ ks.length := by
  have h := fold_len ks []
  rw [List.length_nil, Nat.zero_add] at h
  exact h
theorem fold_mem : ∀ (ks l : List Str) (z : Str), z ∈ ks.foldl addW l ↔ z ∈ l ∨ z ∈ ks
  | [], l, z => by simp
  | y :: r, l, z => by
    rw [List.foldl_cons, fold_mem r]
    unfold addW
    by_cases m : y ∈ l
    · rw [if_pos m, List.mem_cons]
      constructor
      · exact fun q => q.elim .inl fun q => .inr (.inr q)
      · rintro (q | q | q)
        · exact .inl q
        · exact .inl (q ▸ m)
        · exact .inr q
    · rw [if_neg m, List.mem_cons, List.mem_cons]
      constructor
      · rintro ((q | q) | q)
        · exact .inr (.inl q)
        · exact .inl q
        · exact .inr (.inr q)
      · rintro (q | q | q)
        · exact .inl (.inr q)
        · exact .inl (.inl q)
        · exact .inr q
theorem onceW_mem {ks : List Str} {z : Str} : z ∈ onceW ks ↔ z ∈ ks := by
  unfold onceW
  rw [fold_mem]
  simp
theorem onceW_nodup : ∀ (ks l : List Str), l.Nodup → (ks.foldl addW l).Nodup
  | [], _, h => h
  | z :: r, l, h => by
    rw [List.foldl_cons]
    refine onceW_nodup r _ ?_
    unfold addW
    split
    · exact h
    · exact List.nodup_cons.mpr ⟨by assumption, h⟩
/-- as many as there are texts: just if all are different -/
theorem onceW_all : ∀ (ks l : List Str), (ks.foldl addW l).length = l.length + ks.length ↔ ks.Nodup ∧ ∀ z ∈ ks, z ∉ l
  | [], l => ⟨fun _ => ⟨List.Pairwise.nil, fun _ h => nomatch h⟩, fun _ => rfl⟩
  | z :: r, l => by
    have ih := onceW_all r (addW l z)
    have le := fold_len r (addW l z)
    rw [List.foldl_cons, List.length_cons, List.nodup_cons]
    unfold addW at ih le ⊢
    by_cases m : z ∈ l
    · rw [if_pos m] at le ⊢
      constructor
      · intro h; omega
      · intro h
        exact absurd m (h.2 z List.mem_cons_self)
    · rw [if_neg m] at ih le ⊢
      rw [List.length_cons] at ih le
      constructor
      · intro h
        obtain ⟨n, o⟩ := ih.mp (by omega)
        refine ⟨⟨fun q => o z q List.mem_cons_self, n⟩, fun y hy => ?_⟩
        rcases List.mem_cons.mp hy with e | e
        · rw [e]; exact m
        · exact fun q => o y e (List.mem_cons_of_mem _ q)
      · rintro ⟨⟨n1, n2⟩, o⟩
        have := ih.mpr ⟨n2, fun y hy q => (List.mem_cons.mp q).elim (fun e => n1 (e ▸ hy)) (o y (List.mem_cons_of_mem _ hy))⟩
        omega
section
variable {P : Program} {w : World} {A : Around} {E : Value → Shared → Prop} {s : Shared}
theorem setW_new {h : Heap} {a : Addr} (e : h.get? a = some (mtSet w)) : SetW P w h a [] :=
  ⟨_, #[], 0, _, e, ⟨rfl, rfl, rfl⟩, rfl, (fun _ q => absurd q (by simp)), List.Perm.nil, List.Pairwise.nil, by decide, by rfl, List.Pairwise.nil, by
    show _ ∨ (!w.params.followText "set-order") = true
    cases w.params.followText "set-order" with
    | true => exact .inl rfl
    | false => exact .inr rfl⟩
/-- the loop behind set(x), over texts -/
theorem words_loop {it st : Addr} {fp wr : List Addr} {G : Array GenState → Array GenState → Prop} {m : Nat} {Pv : Nat → Value → Prop} {At : Nat → Shared → Prop} {R : Result → Shared → Prop} (T : WalksS P w A.in1 it fp wr G m Pv At) (off : st ∉ fp) (ks : List Str) (em : m = ks.length)
    (few : ks.length + 1 < scanBound) (vals : ∀ i v, Pv i v → ∃ z t, ks[i]? = some z ∧ v = .str z t) :
    ∀ (left i : Nat) (s : Shared), m - i = left → i ≤ m → At i s → SetW P w s.heap st (onceW (ks.take i)) → (∀ q, Moved (st :: wr) G s q → SetW P w q.heap st (onceW ks) → R (.ok (.ret .none)) q) →
      codeAny (model P w) A (.builtin "set.update.loop" ⟨[.ref st, .ref it], []⟩) R s := by
  have offw : st ∉ wr := fun z => off (T.sub _ z)
  have up : ∀ b ∈ wr, b ∈ st :: wr := fun _ z => List.mem_cons_of_mem _ z
  intro left
  induction left with
  | zero =>
    intro i s e le at_ W k
    obtain rfl : i = m := by omega
    refine codeAny_builtin F.entry_set_update_loop ?_
    rw [Around.under_plainId F.plain_set_update_loop _]
    refine wpAny_bind (m := pyNext (.ref it)) (T.done s _ _ at_ fun q mv => ?_)
    have all : ks.take i = ks := List.take_of_length_le (by omega)
    rw [all] at W
    exact wpAny_pure (k q (mv.mono up) (W.move fun o e => mv.heap st o offw e))
  | succ left ih =>
    intro i s e le at_ W k
    have lt : i < m := by omega
    refine codeAny_builtin F.entry_set_update_loop ?_
    rw [Around.under_plainId F.plain_set_update_loop _]
    refine wpAny_bind (m := pyNext (.ref it)) (T.item i s _ _ lt at_ fun v q pv at2 mv => ?_)
    obtain ⟨z, t, ez, rfl⟩ := vals i v pv
    have W2 : SetW P w q.heap st (onceW (ks.take i)) := W.move fun o e => mv.heap st o offw e
    refine wpAny_bind (m := holding [Value.str z t] (setAdd st (.str z t))) (wpAny_holding ?_)
    unfold setAdd
    refine wpAny_holding (wpAny_bind ((strKind P w).pyHash (k := z) (strKind_is _ _ _ _) ?_))
    have room : (onceW (ks.take i)).length + 1 < scanBound := by
      have h1 := onceW_len (ks.take i)
      rw [List.length_take] at h1
      omega
    refine setW_add (s := { q with toks := q.toks + 1 }) W2 room fun b h2 sb W3 => ?_
    have nx : (if z ∈ onceW (ks.take i) then onceW (ks.take i) else z :: onceW (ks.take i)) = onceW (ks.take (i + 1)) := by
      have e1 : ks.take (i + 1) = ks.take i ++ [z] := by rw [List.take_add_one, ez]; rfl
      rw [e1]
      unfold onceW
      rw [List.foldl_append]
      rfl
    rw [nx] at W3
    have still : ∀ c, c ≠ st → ∀ o, q.heap.get? c = some o → h2.get? c = some o := fun c n o e => by rw [sb.2 c n]; exact e
    refine wpAny_pure ⟨plainId_quiet F.plain_set_update_loop _, ih (i + 1) _ (by omega) lt (T.frame _ q _ _ at2 (Nat.le_succ _) fun c hc o e => still c (fun n => off (n ▸ hc)) o e) W3 fun y mv2 Wy => k y ?_ Wy⟩
    exact Moved.trans T.gtrans ((mv.mono up).then_heap (Nat.le_succ _) fun c o hc e => still c (fun n => hc (n ▸ List.mem_cons_self)) o e) mv2
end
section
variable {P : Program} {w : World} {A : Around} {E : Value → Shared → Prop} {s : Shared}
/-- what stands behind set(x) of texts -/
abbrev WordsDone (P : Program) (w : World) (s : Shared) (ks : List Str) (s₂ : Shared) : Prop :=
  ∃ h' tk, s₂ = { s with heap := h', toks := tk } ∧ SetW P w h' s.heap.objs.size (onceW ks) ∧ ∀ b o, s.heap.get? b = some o → h'.get? b = some o
set_option maxHeartbeats 8000000 in
theorem set_of_words {l : Addr} {items : Array Value} (ks : List Str) {Q : Value → Shared → Prop} (hh : A.handled = none) (hl : s.heap.IsList l items) (hsz : items.size = ks.length) (hit : ∀ (i : Nat) (v : Value), items[i]? = some v → ∃ z t, ks[i]? = some z ∧ v = .str z t) (hb : ks.length + 1 < scanBound)
    (h : ∀ s₂, WordsDone P w s ks s₂ → Q (.ref s.heap.objs.size) s₂) : wpAny (model P w) A (call (.type "set") [.ref l]) Q E s := by
  obtain ⟨c, tl, hmro⟩ := F.called_set.mro
  have m1 := F.called_set.made
  have m2 := F.called_set.sub
  have m3 := F.called_set.notType
  have m4 := F.called_set.canCreate
  have m5 := F.typeCall_set_1 (.ref l)
  refine wpAny_call (codeAny_of_tree (show wpAny _ _ (callAny (.type "set") _) _ _ _ from wpAny_pure ⟨Code.quiet_builtin _ (by decide +kernel), codeAny_builtin F.entry_type_call ?_⟩))
  rw [Around.under_plain (weight_type_call_type "set" [.ref l] []) rfl]
  repeat (any_goals (first | assumption | wp_step))
  refine codeAny_mono (code_set_led1 (.ref l) (E := E) (Q₁ := fun obj s₁ => obj = .ref s.heap.objs.size ∧ s₁ = { s with heap := s.heap.push (mtSet w) }) ⟨rfl, rfl⟩) fun r s₁ hr => ?_
  match r, hr with
  | .error e, hr => exact hr
  | .ok (.ret obj), hr =>
    obtain ⟨rfl, rfl⟩ := hr
    have new := mt_at w s.heap
    have ty : Shared.TypeIs { s with heap := s.heap.push (mtSet w) } (.ref s.heap.objs.size) "set" := ⟨_, new, rfl⟩
    have m6 := F.called_set.init.lookup
    have m7 := F.called_set.init.bind (.ref s.heap.objs.size)
    repeat (any_goals (first | assumption | wp_step))
    refine codeAny_mono (codeAny_call_builtin (R := wants (fun r s₂ => r = .none ∧ WordsDone P w s ks s₂) E) F.called_set.init.plain F.entry_set_init (check_set_init_1 ty ?_)) fun r₂ s₂ hr₂ => ?_
    · obtain ⟨⟨ocls, odict, odata, oslots⟩, hol, hcl, nl, hdl⟩ := hl
      simp only at hcl hdl
      subst hcl; subst hdl
      have lt : l < s.heap.objs.size := Heap.lt_size hol
      have old : (s.heap.push (mtSet w)).get? l = some { cls := .type "list", dict := odict, data := .seq items nl, slots := oslots } := Heap.get?_push_of_some _ hol
      have il : (s.heap.push (mtSet w)).IsList l items := ⟨_, old, rfl, nl, rfl⟩
      have n1 := F.sub_list_set
      have n2 := F.sub_list_frozenset
      have n3 : (Value.type "list" == Value.type "dict") = false := by decide
      have sz : (s.heap.push (mtSet w)).objs.size = s.heap.objs.size + 1 := Heap.size_push ..
      unfold Builtin.«set.__init__» noKeywords Builtin.Frozenset.updateFrom
      generalize hPI : pyIter = PI
      wp_walk
      subst hPI
      refine wpAny_pyIter_list il (wpAny_bind (wpAny_runValue ?_))
      have apart : l ≠ (s.heap.push (mtSet w)).objs.size := by rw [sz]; exact Nat.ne_of_lt (Nat.lt_succ_of_lt lt)
      refine words_loop (P := P) (w := w) ((Walks.list (show A.in1.in1.in1.handled = none by simp [hh]) _ l apart items).toS) (st := s.heap.objs.size) ?_ ks hsz hb hit (items.size - 0) 0 _ (by omega) (Nat.zero_le _)
        ⟨⟨_, Heap.get?_push_size _ rfl, rfl, rfl⟩, il.push _⟩ (setW_new (Heap.get?_push_of_some _ new)) fun s' hm hS' => ?_
      · rw [sz]
        intro z
        rcases List.mem_cons.mp z with z | z
        · exact absurd z (Nat.ne_of_lt (Nat.lt_succ_self _))
        · rcases List.mem_cons.mp z with z | z
          · exact absurd z (Nat.ne_of_gt lt)
          · cases z
      · obtain ⟨h', g2, d', tk', os'⟩ := s'
        obtain rfl : g2 = s.gens := hm.gens
        obtain rfl : d' = s.drawn := hm.drawn
        obtain rfl : os' = s.os := hm.os
        refine wpAny_pure (show wpAny _ _ (ret Value.none) _ _ _ from wpAny_pure ⟨rfl, h', tk', rfl, hS', fun b o e => ?_⟩)
        have lb : b < s.heap.objs.size := Heap.lt_size e
        refine hm.heap b o (fun z => ?_) (Heap.get?_push_of_some _ (Heap.get?_push_of_some _ e))
        rcases List.mem_cons.mp z with z | z
        · exact absurd z (Nat.ne_of_lt lb)
        · rcases List.mem_cons.mp z with z | z
          · rw [sz] at z
            exact absurd z (Nat.ne_of_lt (Nat.lt_succ_of_lt lb))
          · cases z
    · match r₂, hr₂ with
      | .error e, hr₂ => exact hr₂
      | .ok (.ret r), hr₂ =>
        obtain ⟨rfl, done⟩ := hr₂
        repeat (any_goals (first | assumption | wp_step))
        exact h _ done
end
end Jg

/-! set(words), sorted(set of words), len(set of words) as rules -/
namespace Jg
open PySem PySem.Spec PyProof.Rows L2
/-- the set of the texts zs at a -/
def SetWO (P : Program) (w : World) (a : Addr) (zs : List Str) : HO := .ext fun h => SetW P w h a zs
theorem setW_ok {w : World} {P : Program} {H : Hp} {h : Heap} {a : Addr} {zs : List Str} (R : SetW P w h a zs) : ObjOk P w H h a (SetWO P w a zs) := by
  have ⟨o, _, _, _, ho, _⟩ := R
  exact ⟨R, ⟨o, ho⟩, fun h1 h2 p k => SetW.move p k⟩
section
variable {X : Cx}
theorem setW_get {pins : List (Addr × Obj)} {σ : L2.St} {H : Hp} {s : Shared} {a : Addr} {zs : List Str} (I : Inv X pins σ H s) (e : H a = some (SetWO X.prog X.w a zs)) : SetW X.prog X.w s.heap a zs := (I.hok a _ e).1
/-- set(xs) of a list of texts -/
def rSetW (X : Cx) : List V → Hp → VK → Prop := fun xs H Q => ∃ (a : Addr) (ks : List Str), xs = [.ref a] ∧ SqL X.K H a (ks.map V.str) ∧ ks.length + 1 < scanBound ∧ ∀ p, H p = none → Q (.ref p) (upd H p (SetWO X.prog X.w p (onceW ks)))
theorem strs_at {ks : List Str} : ∀ {us : List Value}, Vals (ks.map V.str) us → us.length = ks.length ∧ ∀ (i : Nat) (v : Value), us[i]? = some v → ∃ z t, ks[i]? = some z ∧ v = .str z t := by
  induction ks with
  | nil =>
    intro us r
    cases r
    exact ⟨rfl, fun i v h => by simp at h⟩
  | cons z ks ih =>
    intro us r
    rw [List.map_cons] at r
    cases r with
    | cons r1 r2 =>
      obtain ⟨t, e⟩ := r1
      obtain ⟨h1, h2⟩ := ih r2
      refine ⟨by rw [List.length_cons, List.length_cons, h1], fun i v h => ?_⟩
      cases i with
      | zero => exact ⟨z, t, rfl, by rw [← e]; exact (Option.some.inj h).symm⟩
      | succ i => exact h2 i v h
theorem cr_setW (hc : X.calm = true) : CallR X (.type "set") (rSetW X) := by
  intro pins s σ H xs us Q I r h
  obtain ⟨a, ks, rfl, hs, few, q⟩ := h
  obtain ⟨u, rfl, ru⟩ := vals1 r
  cases ru
  obtain ⟨its, rv, p, _⟩ := I.list hs
  obtain ⟨ln, at_⟩ := strs_at rv
  refine set_of_words ks (I.ok.hd hc) p.isList (by simpa using ln) (fun i v h => at_ i v (by simpa using h)) few fun s₂ ⟨h', tk, e, R, k⟩ => ?_
  subst e
  exact ⟨.ref s.heap.objs.size, _, I.laid (t' := tk) k (Nat.le_refl _) (setW_ok R), rfl, q _ (I.hok.fresh (Nat.le_refl _))⟩
end
section
variable {P : Program} {w : World} {A : Around} {E : Value → Shared → Prop} {s : Shared} {a : Addr} {zs : List Str}
theorem strs_of : ∀ l : List Value, (∀ v ∈ l, ∃ z t, v = Value.str z t) → ∃ ys : List Str, StrsAre l ys ∧ ∀ f : Value → Str, (∀ z t, f (.str z t) = z) → l.map f = ys
  | [], _ => ⟨[], .nil, fun _ _ => rfl⟩
  | v :: l, h => by
    obtain ⟨z, t, e⟩ := h v List.mem_cons_self
    obtain ⟨ys, h1, h2⟩ := strs_of l fun u hu => h u (List.mem_cons_of_mem _ hu)
    subst e
    exact ⟨z :: ys, .cons z t h1, fun f hf => by rw [List.map_cons, hf, h2 f hf]⟩
def txtOf (v : Value) : Str := match v with | .str z _ => z | _ => Str.empty
theorem sorted_words {Q : Value → Shared → Prop} (R : SetW P w s.heap a zs) (hh : A.handled = none) (few : zs.length < 64)
    (k : ∀ s' p (out : Array Value) (c : Nat) (ys : List Str), (∀ b o, s.heap.get? b = some o → s'.heap.get? b = some o) → s'.gens = s.gens → s'.os = s.os → s.heap.objs.size ≤ p → s'.heap.get? p = some (seqObj "list" out c) → StrsAre out.toList ys → ys.Perm zs → sortedS ys = true → Q (.ref p) s') :
    wpAny (model P w) A (call (.builtin "sorted") [.ref a]) Q E s := by
  obtain ⟨o, es, ep, t, at_, ex, dt, gd, pm, nd, fw, ft, ri, ld⟩ := R
  have small : es.size = zs.length := by
    have q := pm.length_eq
    rw [List.length_map, Array.length_toList] at q
    exact q
  refine Calls.call_function_entry kind_sorted plain_sorted entry_sorted (args_sorted1 _) ?_
  unfold Builtin.«sorted»
  refine wpAny_bind (m := checkCount "sorted" 1 1 _) (wpAny_pure (wpAny_bind (collect_set (A := A.in1) hh ⟨o, at_, ex.1, dt⟩ ft (by rw [small]; exact fw) ri ld fun s1 vs k1 up g1 o1 perm => ?_)))
  have len : vs.length = zs.length := by rw [perm.length_eq, List.length_map, Array.length_toList, small]
  obtain ⟨ys, sa, ym⟩ := strs_of vs fun v hv => by
    obtain ⟨e, he, q⟩ := List.mem_map.mp (perm.mem_iff.mp hv)
    obtain ⟨z, tk, e1, _⟩ := gd e he
    exact ⟨z, tk, by rw [← q]; exact e1⟩
  have py : ys.Perm zs := by
    have q := perm.map txtOf
    rw [ym txtOf fun _ _ => rfl, List.map_map] at q
    exact q.trans pm
  refine wpAny_bind (wpAny_newList ?_ (by rw [len, sizeLine_eq]; omega))
  have new : (s1.heap.push (seqObj "list" vs.toArray 0)).get? s1.heap.objs.size = some (seqObj "list" vs.toArray 0) := Heap.get?_push_size _ rfl
  refine wpAny_bind (wpAny_holding (wpAny_call_entry slot_list_sort ⟨_, new, rfl⟩ entry_list_sort
    (list_sort_treeK strKind_oneLt new sa.keysOf (fun v₁ v₂ rest e => keyKind_strs (by rw [← e]; exact sa)) (by rw [len]; exact few) fun st' hp hs => ⟨_, rfl, ?_⟩) (args_list_sort _)))
  obtain ⟨ss, g2, g3, g4⟩ := sorted_out_str sa hp hs
  obtain ⟨c, hc⟩ := sortedHeap_at (vs := vs) (out := (arrOf st').map (·.2)) new
  refine wpAny_pure ⟨_, rfl, k _ s1.heap.objs.size _ c ss (fun b u e => ?_) g1 o1 up hc g2 (g3.trans py) g4⟩
  have q := k1 b u e
  have lt := Heap.lt_size q
  show (sortedHeap (s1.heap.push (seqObj "list" vs.toArray 0)) s1.heap.objs.size vs _).get? b = some u
  rw [sortedHeap_old (Nat.ne_of_lt lt) (by rw [Heap.size_push]; exact Nat.lt_succ_of_lt lt)]
  exact Heap.get?_push_of_some _ q
end
/-- sorted(words) of a set -/
def rSortW (X : Cx) : List V → Hp → VK → Prop := fun vs H Q => ∃ (a : Addr) (zs : List Str), vs = [V.ref a] ∧ H a = some (SetWO X.prog X.w a zs) ∧ zs.length < 64 ∧ ∀ (ys : List Str) (p : Addr), ys.Perm zs → sortedS ys = true → H p = none → Q (.ref p) (upd H p (.lst (ys.map V.str)))
theorem cr_sortW {X : Cx} (hc : X.calm = true) : CallR X (.builtin "sorted") (rSortW X) := by
  intro pins s σ H vs us Q I r h
  obtain ⟨a, zs, rfl, ha, few, q⟩ := h
  have R := setW_get I ha
  rw [Vals.ref1 r]
  refine sorted_words R (I.ok.hd hc) few fun s' p out c ys k g o up e sa pm so => ?_
  have len : (ys.map V.str).length ≤ sizeLine := by rw [List.length_map, pm.length_eq, sizeLine_eq]; omega
  have nw : H p = none := I.hok.fresh up
  have J : Inv X pins σ (upd H p (.lst (ys.map V.str))) { s with heap := s'.heap, gens := s'.gens, drawn := s'.drawn, toks := s'.toks } :=
    I.call (ch := []) (Un.laid k up nw) (I.hok.laid k up ⟨len, out.toList, c, vals_of_strs sa, e⟩) (by rw [g]; exact I.bare) fun _ z => nomatch z
  have es : s' = { s with heap := s'.heap, gens := s'.gens, drawn := s'.drawn, toks := s'.toks } := by
    cases s'
    cases s
    cases o
    rfl
  rw [es]
  exact ⟨.ref p, _, J, rfl, q ys p pm so nw⟩
/-- len of a set of texts -/
def rLenW (X : Cx) : List V → Hp → VK → Prop := fun xs H Q => ∃ (a : Addr) (zs : List Str), xs = [.ref a] ∧ H a = some (SetWO X.prog X.w a zs) ∧ Q (.int zs.length) H
theorem call_lenW {X : Cx} : CallR X (.builtin "len") (rLenW X) := by
  intro pins s σ H xs us Q I r h
  obtain ⟨a, zs, rfl, ha, q⟩ := h
  rw [Vals.ref1 r]
  obtain ⟨o, es, ep, t, at_, ex, dt, gd, pm, nd, fw, ft, _⟩ := setW_get I ha
  have n : es.size = zs.length := by
    have z := pm.length_eq
    rw [List.length_map, Array.length_toList] at z
    exact z
  have small : scanBound < 2 ^ 62 := by decide
  have e : ((es.size : Nat) : Int) = ((zs.length : Nat) : Int) := by rw [n]
  exact PySem.call_len_set at_ ex dt ft (by rw [n]; omega) (e ▸ ⟨.int zs.length, H, I.tok _, ⟨_, rfl⟩, q⟩)
end Jg

/-! set(words) of a tuple of texts -/
namespace Jg
open PySem PySem.Spec PyProof.Rows L2
section
variable {P : Program} {w : World} {A : Around} {E : Value → Shared → Prop} {s : Shared}
set_option maxHeartbeats 8000000 in
theorem set_of_wordsT {l : Addr} {items : Array Value} (ks : List Str) {Q : Value → Shared → Prop} (hh : A.handled = none) (hl : s.heap.IsTuple l items) (hsz : items.size = ks.length) (hit : ∀ (i : Nat) (v : Value), items[i]? = some v → ∃ z t, ks[i]? = some z ∧ v = .str z t) (hb : ks.length + 1 < scanBound)
    (h : ∀ s₂, WordsDone P w s ks s₂ → Q (.ref s.heap.objs.size) s₂) : wpAny (model P w) A (call (.type "set") [.ref l]) Q E s := by
  obtain ⟨c, tl, hmro⟩ := F.called_set.mro
  have m1 := F.called_set.made
  have m2 := F.called_set.sub
  have m3 := F.called_set.notType
  have m4 := F.called_set.canCreate
  have m5 := F.typeCall_set_1 (.ref l)
  refine wpAny_call (codeAny_of_tree (show wpAny _ _ (callAny (.type "set") _) _ _ _ from wpAny_pure ⟨Code.quiet_builtin _ (by decide +kernel), codeAny_builtin F.entry_type_call ?_⟩))
  rw [Around.under_plain (weight_type_call_type "set" [.ref l] []) rfl]
  repeat (any_goals (first | assumption | wp_step))
  refine codeAny_mono (code_set_led1 (.ref l) (E := E) (Q₁ := fun obj s₁ => obj = .ref s.heap.objs.size ∧ s₁ = { s with heap := s.heap.push (mtSet w) }) ⟨rfl, rfl⟩) fun r s₁ hr => ?_
  match r, hr with
  | .error e, hr => exact hr
  | .ok (.ret obj), hr =>
    obtain ⟨rfl, rfl⟩ := hr
    have new := mt_at w s.heap
    have ty : Shared.TypeIs { s with heap := s.heap.push (mtSet w) } (.ref s.heap.objs.size) "set" := ⟨_, new, rfl⟩
    have m6 := F.called_set.init.lookup
    have m7 := F.called_set.init.bind (.ref s.heap.objs.size)
    repeat (any_goals (first | assumption | wp_step))
    refine codeAny_mono (codeAny_call_builtin (R := wants (fun r s₂ => r = .none ∧ WordsDone P w s ks s₂) E) F.called_set.init.plain F.entry_set_init (check_set_init_1 ty ?_)) fun r₂ s₂ hr₂ => ?_
    · obtain ⟨⟨ocls, odict, odata, oslots⟩, hol, hcl, nl, hdl⟩ := hl
      simp only at hcl hdl
      subst hcl; subst hdl
      have lt : l < s.heap.objs.size := Heap.lt_size hol
      have old : (s.heap.push (mtSet w)).get? l = some { cls := .type "tuple", dict := odict, data := .seq items nl, slots := oslots } := Heap.get?_push_of_some _ hol
      have il : (s.heap.push (mtSet w)).IsTuple l items := ⟨_, old, rfl, nl, rfl⟩
      have n1 := F.sub_tuple_set
      have n2 := F.sub_tuple_frozenset
      have n3 : (Value.type "tuple" == Value.type "dict") = false := by decide
      have sz : (s.heap.push (mtSet w)).objs.size = s.heap.objs.size + 1 := Heap.size_push ..
      unfold Builtin.«set.__init__» noKeywords Builtin.Frozenset.updateFrom
      generalize hPI : pyIter = PI
      wp_walk
      subst hPI
      refine wpAny_pyIter_tuple il (wpAny_bind (wpAny_runValue ?_))
      have apart : l ≠ (s.heap.push (mtSet w)).objs.size := by rw [sz]; exact Nat.ne_of_lt (Nat.lt_succ_of_lt lt)
      refine words_loop (P := P) (w := w) ((Walks.tuple (show A.in1.in1.in1.handled = none by simp [hh]) _ l apart items).toS) (st := s.heap.objs.size) ?_ ks hsz hb hit (items.size - 0) 0 _ (by omega) (Nat.zero_le _)
        ⟨⟨_, Heap.get?_push_size _ rfl, rfl, rfl⟩, il.push _⟩ (setW_new (Heap.get?_push_of_some _ new)) fun s' hm hS' => ?_
      · rw [sz]
        intro z
        rcases List.mem_cons.mp z with z | z
        · exact absurd z (Nat.ne_of_lt (Nat.lt_succ_self _))
        · rcases List.mem_cons.mp z with z | z
          · exact absurd z (Nat.ne_of_gt lt)
          · cases z
      · obtain ⟨h', g2, d', tk', os'⟩ := s'
        obtain rfl : g2 = s.gens := hm.gens
        obtain rfl : d' = s.drawn := hm.drawn
        obtain rfl : os' = s.os := hm.os
        refine wpAny_pure (show wpAny _ _ (ret Value.none) _ _ _ from wpAny_pure ⟨rfl, h', tk', rfl, hS', fun b o e => ?_⟩)
        have lb : b < s.heap.objs.size := Heap.lt_size e
        refine hm.heap b o (fun z => ?_) (Heap.get?_push_of_some _ (Heap.get?_push_of_some _ e))
        rcases List.mem_cons.mp z with z | z
        · exact absurd z (Nat.ne_of_lt lb)
        · rcases List.mem_cons.mp z with z | z
          · rw [sz] at z
            exact absurd z (Nat.ne_of_lt (Nat.lt_succ_of_lt lb))
          · cases z
    · match r₂, hr₂ with
      | .error e, hr₂ => exact hr₂
      | .ok (.ret r), hr₂ =>
        obtain ⟨rfl, done⟩ := hr₂
        repeat (any_goals (first | assumption | wp_step))
        exact h _ done
end
/-- set(x) of a list or a tuple of texts -/
def rSetW2 (X : Cx) : List V → Hp → VK → Prop := fun xs H Q => ∃ (a : Addr) (ks : List Str), xs = [.ref a] ∧ (SqL X.K H a (ks.map V.str) ∨ SqT X.K H a (ks.map V.str)) ∧ ks.length + 1 < scanBound ∧ ∀ p, H p = none → Q (.ref p) (upd H p (SetWO X.prog X.w p (onceW ks)))
theorem cr_setW2 {X : Cx} (hc : X.calm = true) : CallR X (.type "set") (rSetW2 X) := by
  intro pins s σ H xs us Q I r h
  obtain ⟨a, ks, rfl, hs | hs, few, q⟩ := h
  · exact cr_setW hc pins s σ H _ us Q I r ⟨a, ks, rfl, hs, few, q⟩
  · obtain ⟨u, rfl, ru⟩ := vals1 r
    cases ru
    obtain ⟨its, rv, p, _⟩ := I.tuple hs
    obtain ⟨ln, at_⟩ := strs_at rv
    refine set_of_wordsT ks (I.ok.hd hc) p (by simpa using ln) (fun i v h => at_ i v (by simpa using h)) few fun s₂ ⟨h', tk, e, R, k⟩ => ?_
    subst e
    exact ⟨.ref s.heap.objs.size, _, I.laid (t' := tk) k (Nat.le_refl _) (setW_ok R), rfl, q _ (I.hok.fresh (Nat.le_refl _))⟩
end Jg

/-! a list or a tuple is walked -/
namespace Jg
open PySem PySem.Spec PyProof.Rows L2
/-- xs stands at a, as a list (true) or as a tuple -/
def SqE (K : PySem.W.Frag) (b : Bool) (H : Hp) (a : Addr) (xs : List V) : Prop := if b = true then SqL K H a xs else SqT K H a xs
def iEither (K : PySem.W.Frag) (te : TE) : TI := fun σ H R => te σ H fun x H1 => ∃ a b xs, x = .ref a ∧ SqE K b H1 a xs ∧ R (if b = true then Itl K a else Itt K a) H1
theorem pi_either {X : Cx} {tg e : Expr} {te : TE} (he : PE X e te) : PI X tg e (iEither X.K te) := by
  refine ⟨fun pins s σ H R I h => thn (he.run pins s σ H _ I h) fun v t ⟨x, G, J, rx, a, b, xs, e1, sq, q⟩ => ?_⟩
  subst e1
  cases rx
  have old : ∀ c o, t.heap.get? c = some o → (t.heap.push { cls := .type "list_iterator", data := .fields #[.ref a, .int 0 0] }).get? c = some o := fun c o z => Heap.get?_push_of_some _ z
  have fp : ∀ c, c ∈ [t.heap.objs.size] → FpOk X pins G c := fun c hc => by
    rw [List.mem_singleton.mp hc]
    exact J.fpOk (Nat.le_refl _) (J.hok.fresh (Nat.le_refl _))
  cases b with
  | true =>
    obtain ⟨us, rv, at_, _⟩ := J.list (show SqL X.K G a xs from sq)
    exact wpAny_pyIter_list at_.isList ⟨t.heap.objs.size, [t.heap.objs.size], _, _, G, rfl, J.kept (t' := t.toks) fun c o z => Heap.get?_push_of_some _ z, turn_list a _, ⟨_, Heap.get?_push_size _ rfl, rfl, rfl⟩, fp, q⟩
  | false =>
    obtain ⟨us, rv, at_, _⟩ := J.tuple (show SqT X.K G a xs from sq)
    exact wpAny_pyIter_tuple (show t.heap.IsTuple a us.toArray from at_) ⟨t.heap.objs.size, [t.heap.objs.size], _, _, G, rfl, J.kept (t' := t.toks) fun c o z => Heap.get?_push_of_some _ z, turn_tuple a _, ⟨_, Heap.get?_push_size _ rfl, rfl, rfl⟩, fp, q⟩
theorem lc_either {K : PySem.W.Frag} {b : Bool} {a : Addr} {xs : List V} {g : TG} {tt : TT} {te : TE} {vs : List Nat} {σ : L2.St} {H1 : Hp} {D : Addr} {Qd : Hp → Prop} (Pv : Nat → Hp → Prop) (h0 : Pv 0 (upd H1 D (.lst []))) (hl : ∀ i H, i ≤ xs.length → Pv i H → SqE K b H a xs)
    (hs : ∀ i x H, xs[i]? = some x → Pv i H → g x (wipe σ vs) H fun σ2 H2 => wipe σ2 vs = wipe σ vs ∧ tt σ2 H2 fun k H3 =>
      if k = true then te σ2 H3 fun y H4 => ∃ acc, H4 D = some (.lst acc) ∧ acc.length < sizeLine ∧ Pv (i + 1) (upd H4 D (.lst (acc ++ [y]))) else Pv (i + 1) H3) (hd : ∀ H, Pv xs.length H → Qd H) :
    ∃ W : Nat → Nat → Hp → Prop, (∃ m, W 0 m (upd H1 D (.lst []))) ∧ ∀ i m H, W i m H →
      ((if b = true then Itl K a else Itt K a).stop i H ∧ Qd H) ∨ ((if b = true then Itl K a else Itt K a).go i H ∧ ∃ Nx : Hp → Prop, (∀ H', Nx H' → ∃ m', m' < m ∧ W (i + 1) m' H') ∧ ∀ x H', (if b = true then Itl K a else Itt K a).yld i H x H' → g x (wipe σ vs) H' fun σ2 H2 => wipe σ2 vs = wipe σ vs ∧ tt σ2 H2 fun k H3 =>
        if k = true then te σ2 H3 fun y H4 => ∃ acc, H4 D = some (.lst acc) ∧ acc.length < sizeLine ∧ Nx (upd H4 D (.lst (acc ++ [y]))) else Nx H3) := by
  cases b with
  | true => exact lc_list (K := K) (a := a) (xs := xs) Pv h0 hl hs hd
  | false => exact lc_tup (K := K) (a := a) (xs := xs) Pv h0 hl hs hd
end Jg

/-! the one sorted list of some texts -/
namespace Jg
open PySem PySem.Spec PyProof.Rows
/-- x is behind y -/
def bef (x y : Str) : Bool := !ltCps y.cps.toList x.cps.toList
theorem bef_iff {x y : Str} : bef x y = true ↔ ¬ y.cps.toList < x.cps.toList := by
  unfold bef
  rw [ltCps_eq]
  simp
theorem bef_refl (x : Str) : bef x x = true := bef_iff.mpr (List.lt_irrefl _)
theorem bef_total (x y : Str) : bef x y = true ∨ bef y x = true := by
  rcases Decidable.em (y.cps.toList < x.cps.toList) with h | h
  · exact .inr (bef_iff.mpr fun q => List.lt_irrefl _ (List.lt_trans h q))
  · exact .inl (bef_iff.mpr h)
theorem bef_anti {x y : Str} (h1 : bef x y = true) (h2 : bef y x = true) : x = y := by
  have a := bef_iff.mp h1
  have b := bef_iff.mp h2
  have e : x.cps.toList = y.cps.toList := List.le_antisymm (List.not_lt.mp a) (List.not_lt.mp b)
  have c : x.cps = y.cps := Array.ext' e
  cases x; cases y; cases c; rfl
theorem bef_trans {x y z : Str} (h1 : bef x y = true) (h2 : bef y z = true) : bef x z = true := by
  have a := List.not_lt.mp (bef_iff.mp h1)
  have b := List.not_lt.mp (bef_iff.mp h2)
  exact bef_iff.mpr (List.not_lt.mpr (List.le_trans a b))
theorem rising_pw : ∀ (l : List Str) (p : Str), risingS p l = true → (p :: l).Pairwise fun x y => bef x y = true
  | [], p, _ => List.pairwise_singleton _ _
  | x :: r, p, h => by
    have h' : (bef p x && risingS x r) = true := h
    rw [Bool.and_eq_true] at h'
    have ih := rising_pw r x h'.2
    refine List.pairwise_cons.mpr ⟨fun y hy => ?_, ih⟩
    rcases List.mem_cons.mp hy with e | hy
    · rw [e]; exact h'.1
    · exact bef_trans h'.1 ((List.pairwise_cons.mp ih).1 y hy)
theorem sorted_pw {l : List Str} (h : sortedS l = true) : l.Pairwise fun x y => bef x y = true := by
  cases l with
  | nil => exact .nil
  | cons x r => exact rising_pw r x h
theorem pw_sorted {l : List Str} (h : l.Pairwise fun x y => bef x y = true) : sortedS l = true :=
  sortedS_of_pairwise l (h.imp fun {a b} q => by
    have q' : (!ltCps b.cps.toList a.cps.toList) = true := q
    simpa using q')
theorem pw_uniq : ∀ {l m : List Str}, l.Pairwise (fun x y => bef x y = true) → m.Pairwise (fun x y => bef x y = true) → l.Perm m → l = m
  | [], m, _, _, p => (List.nil_perm.mp p).symm
  | x :: r, [], _, _, p => absurd p (by simp)
  | x :: r, y :: t, h1, h2, p => by
    have e : x = y := by
      have hx : x ∈ y :: t := p.mem_iff.mp (List.mem_cons_self ..)
      have hy : y ∈ x :: r := p.mem_iff.mpr (List.mem_cons_self ..)
      rcases List.mem_cons.mp hx with e | hx
      · exact e
      · rcases List.mem_cons.mp hy with e | hy
        · exact e.symm
        · exact bef_anti ((List.pairwise_cons.mp h1).1 y hy) ((List.pairwise_cons.mp h2).1 x hx)
    subst e
    rw [pw_uniq (List.pairwise_cons.mp h1).2 (List.pairwise_cons.mp h2).2 (List.Perm.cons_inv p)]
def srtW (l : List Str) : List Str := l.mergeSort bef
theorem srtW_perm (l : List Str) : (srtW l).Perm l := List.mergeSort_perm l bef
theorem bef_total' (x y : Str) : (bef x y || bef y x) = true := by rw [Bool.or_eq_true]; exact bef_total x y
theorem srtW_sorted (l : List Str) : sortedS (srtW l) = true := by
  have h : (l.mergeSort bef).Pairwise fun x y => bef x y = true := by
    first
      | exact List.pairwise_mergeSort (le := bef) (fun _ _ _ h1 h2 => bef_trans h1 h2) bef_total' l
      | exact List.sorted_mergeSort (le := bef) (fun _ _ _ h1 h2 => bef_trans h1 h2) bef_total' l
  exact pw_sorted h
theorem srt_eq {l m : List Str} (s : sortedS l = true) (p : l.Perm m) : l = srtW m := pw_uniq (sorted_pw s) (sorted_pw (srtW_sorted m)) (p.trans (srtW_perm m).symm)
theorem srtW_congr {l m : List Str} (p : l.Perm m) : srtW l = srtW m := srt_eq (srtW_sorted l) ((srtW_perm l).trans p)
theorem srtW_len (l : List Str) : (srtW l).length = l.length := (srtW_perm l).length_eq
theorem srtW_mem {l : List Str} {x : Str} : x ∈ srtW l ↔ x ∈ l := (srtW_perm l).mem_iff
theorem srtW_nodup {l : List Str} : (srtW l).Nodup ↔ l.Nodup := (srtW_perm l).nodup_iff
end Jg

/-! a == b of two dicts whose values are data without dicts: both answers -/
namespace Jg
open PySem PySem.Spec PyProof.Rows L2
/-- small enough to be compared -/
def Sh40 (d : PyData) : Prop := d.canLay0 = true ∧ d.depth ≤ 40
/-- the data of a dict's values -/
def DvK (K : PySem.W.Frag) (H : Hp) (ks : List (Key × V)) (da : List (Key × PyData)) : Prop := Paired (fun p q => p.1 = q.1 ∧ Dp K H p.2 q.2 ∧ Sh40 q.2) ks da
def look : List (Key × PyData) → Key → Option PyData
  | [], _ => none
  | p :: r, k => if p.1 = k then some p.2 else look r k
def eqvD (da db : List (Key × PyData)) : Bool := da.length == db.length && da.all fun p => match look db p.1 with | none => false | some e => PyData.eqv p.2 e
section
variable {K : PySem.W.Frag} {H : Hp}
theorem dv_look {ks : List (Key × V)} {da : List (Key × PyData)} (h : DvK K H ks da) (k : Key) : (valV ks k = none ∧ look da k = none) ∨ ∃ v d, valV ks k = some v ∧ look da k = some d ∧ Dp K H v d ∧ Sh40 d := by
  unfold DvK at h
  induction h with
  | nil => exact .inl ⟨rfl, rfl⟩
  | @cons p q ps qs r _ ih =>
    obtain ⟨e, hd, sh⟩ := r
    by_cases c : p.1 = k
    · refine .inr ⟨p.2, q.2, valV_pos c, ?_, hd, sh⟩
      show (if q.1 = k then some q.2 else look qs k) = _
      rw [if_pos (e ▸ c)]
    · have l : look (q :: qs) k = look qs k := by
        show (if q.1 = k then some q.2 else look qs k) = _
        rw [if_neg (e ▸ c)]
      rw [valV_neg c, l]
      exact ih
end
section
variable {X : Cx} {pins : List (Addr × Obj)} {σ : L2.St} {H : Hp} {s : Shared} {A : Around}
theorem hits_data (I : Inv X pins σ H s) (hu : A.units + 40 < cLine) {ls : List (Key × V)} {vb : List (Key × Value)} {db : List (Key × PyData)} (rb : KV ls vb) (hb : DvK X.K H ls db) : ∀ {ks : List (Key × V)} {va : List (Key × Value)} {da : List (Key × PyData)}, KV ks va → DvK X.K H ks da →
    PySem.W.KeqHitsP X.prog X.w A s vb va (da.all fun p => match look db p.1 with | none => false | some e => PyData.eqv p.2 e) := by
  intro ks va da ra ha
  unfold KV at ra
  unfold DvK at ha
  induction ra generalizing da with
  | nil => cases ha; exact .nil
  | @cons p q ps qs h t ih =>
    cases ha with
    | @cons _ d _ ds hd td =>
    obtain ⟨e1, r1⟩ := h
    obtain ⟨e2, dp, sh⟩ := hd
    obtain ⟨qk, qv⟩ := q
    have ek : p.1 = qk := e1
    rw [List.all_cons]
    have rv := rb.val p.1
    rcases dv_look hb p.1 with ⟨n1, n2⟩ | ⟨v, d2, n1, n2, dp2, sh2⟩
    · rw [← e2, n2]
      rw [n1] at rv
      have z : valueAt vb qk = none := by
        rw [← ek]
        cases c : valueAt vb p.1 with
        | none => rfl
        | some y => rw [c] at rv; exact absurd rv (by intro q; cases q)
      exact .miss z
    · rw [← e2, n2]
      rw [n1] at rv
      obtain ⟨y, hy, ry⟩ := rv.some_of
      rw [ek] at hy
      obtain ⟨as, R1⟩ := Dp.reads I d.2 p.2 qv dp r1
      obtain ⟨bs, R2⟩ := Dp.reads I d2 v y dp2 ry
      have eq : SeqAt.EqAt A s qv y (PyData.eqv d.2 d2) := SeqAt.eqAt_reads d.2 d2 A s qv y as bs R1 R2 sh.1 sh2.1 (Nat.lt_of_le_of_lt (Nat.add_le_add_left (Nat.le_trans (Nat.min_le_left _ _) sh.2) _) hu)
      exact .hit hy eq.eqP (ih td)
end
def rEqDD (K : PySem.W.Frag) : R2 := fun x y H Q => ∃ a b ks ls da db, x = .ref a ∧ y = .ref b ∧ H a = some (.dK ks) ∧ H b = some (.dK ls) ∧ DvK K H ks da ∧ DvK K H ls db ∧ Q (.bl (eqvD da db)) H
theorem op_eqDD {X : Cx} (hu : X.A.units + 64 < cLine) : OpR X (compareOp .Eq) (rEqDD X.K) := by
  intro pins s σ H x y v u Q I rx ry h
  obtain ⟨a, b, ks, ls, da, db, rfl, rfl, ha, hb, dva, dvb, q⟩ := h
  cases (show v = Value.ref a from rx)
  cases (show u = Value.ref b from ry)
  obtain ⟨_, ya, va, ra, doa⟩ := (show ObjOk X.prog X.w H s.heap a (.dK ks) from I.hok a _ ha)
  obtain ⟨_, yb, vb, rb, dob⟩ := (show ObjOk X.prog X.w H s.heap b (.dK ls) from I.hok b _ hb)
  refine PySem.W.rcP_dicts (knd := mixKind X.prog X.w) ya yb doa dob (by omega) (fun _ => hits_data I (A := X.A.in1) (by show X.A.units + 1 + 40 < cLine; omega) rb dvb ra dva) _ _ ?_
  have l1 : va.length = da.length := by rw [← Paired.length ra, Paired.length dva]
  have l2 : vb.length = db.length := by rw [← Paired.length rb, Paired.length dvb]
  rw [l1, l2]
  exact ⟨.bl _, H, I, rfl, q⟩
end Jg

/-! lists of texts as data; in, == of them -/
namespace Jg
open PySem PySem.Spec PyProof.Rows L2
def okW (z : Str) : Prop := PyData.strOk z = true
theorem lay_strs : ∀ xs : List Str, (∀ z ∈ xs, okW z) → PyData.canLayAll0 (xs.map PyData.str) = true
  | [], _ => rfl
  | x :: xs, h => by
    show (PyData.canLay0 (.str x) && PyData.canLayAll0 (xs.map PyData.str)) = true
    rw [lay_strs xs fun z hz => h z (List.mem_cons_of_mem _ hz)]
    have e : PyData.canLay0 (.str x) = true := by
      have := h x (List.mem_cons_self ..)
      unfold okW at this
      simp [PyData.canLay0, this]
    rw [e]; rfl
theorem depth_strs : ∀ xs : List Str, PyData.depthAll (xs.map PyData.str) = 0
  | [] => rfl
  | x :: xs => by
    show max (PyData.depth (.str x)) (PyData.depthAll (xs.map PyData.str)) = 0
    rw [depth_strs xs]; rfl
theorem shaped_strs {xs : List Str} (h : ∀ z ∈ xs, okW z) : SeqAt.shaped (.list (xs.map PyData.str)) = true := by
  show (PyData.canLayAll0 (xs.map PyData.str) && decide (PyData.depthAll (xs.map PyData.str) + 1 ≤ 64)) = true
  rw [lay_strs xs h, depth_strs]; rfl
theorem eqv_str (x y : Str) : PyData.eqv (.str x) (.str y) = decide (x = y) := by
  by_cases c : x = y
  · subst c; simp [PyData.eqv]
  · simp [PyData.eqv, c]
theorem eqvAll_strs : ∀ xs ys : List Str, PyData.eqvAll (xs.map PyData.str) (ys.map PyData.str) = decide (xs = ys)
  | [], [] => rfl
  | [], y :: ys => rfl
  | x :: xs, [] => rfl
  | x :: xs, y :: ys => by
    have ih := eqvAll_strs xs ys
    show (PyData.eqv (.str x) (.str y) && PyData.eqvAll (xs.map PyData.str) (ys.map PyData.str)) = _
    rw [ih, eqv_str]
    by_cases c : x = y
    · subst c
      by_cases d : xs = ys
      · subst d; simp
      · simp [d]
    · simp [c]
theorem eqv_strs (xs ys : List Str) : PyData.eqv (.list (xs.map PyData.str)) (.list (ys.map PyData.str)) = decide (xs = ys) := by
  rw [PyData.eqv]; exact eqvAll_strs xs ys
theorem dpAll_strs {K : PySem.W.Frag} {H : Hp} : ∀ xs : List Str, DpAll K H (xs.map V.str) (xs.map PyData.str)
  | [] => .nil
  | x :: xs => .cons (.str x) (dpAll_strs xs)
theorem dp_strs {K : PySem.W.Frag} {H : Hp} {a : Addr} {xs : List Str} (h : SqL K H a (xs.map V.str)) : Dp K H (.ref a) (.list (xs.map PyData.str)) := .lst h (dpAll_strs xs)
theorem ask_eqS {K : PySem.W.Frag} {H : Hp} {a b : Addr} {xs ys : List Str} {Q : VK} (h1 : SqL K H a (xs.map V.str)) (h2 : SqL K H b (ys.map V.str)) (k1 : ∀ z ∈ xs, okW z) (k2 : ∀ z ∈ ys, okW z) (q : Q (.bl (decide (xs = ys))) H) : rEqD K (.ref a) (.ref b) H Q :=
  ⟨_, _, dp_strs h1, dp_strs h2, shaped_strs k1, shaped_strs k2, by rw [eqv_strs]; exact q⟩
theorem ask_neS {K : PySem.W.Frag} {H : Hp} {a b : Addr} {xs ys : List Str} {Q : VK} (h1 : SqL K H a (xs.map V.str)) (h2 : SqL K H b (ys.map V.str)) (k1 : ∀ z ∈ xs, okW z) (k2 : ∀ z ∈ ys, okW z) (q : Q (.bl (!decide (xs = ys))) H) : rNeD K (.ref a) (.ref b) H Q :=
  ⟨_, _, dp_strs h1, dp_strs h2, shaped_strs k1, shaped_strs k2, by rw [eqv_strs]; exact q⟩
/-- z in a list of texts -/
theorem inV_strs {m : Str} : ∀ {xs : List Str}, inV (.str m) (xs.map V.str) = decide (m ∈ xs)
  | [] => rfl
  | x :: xs => by
    have ih := inV_strs (m := m) (xs := xs)
    show (eqV (.str x) (.str m) || inV (.str m) (xs.map V.str)) = _
    rw [ih]
    have e : eqV (.str x) (.str m) = decide (x = m) := by
      by_cases c : x = m
      · subst c; simp [eqV]
      · simp [eqV, c]
    rw [e]
    by_cases c : x = m
    · subst c; simp
    · have c' : ¬ m = x := fun z => c z.symm
      simp [c, c']
theorem flat_strs : ∀ {xs : List Str}, (xs.map V.str).all flatV = true
  | [] => rfl
  | x :: xs => by
    show (flatV (.str x) && (xs.map V.str).all flatV) = true
    rw [flat_strs]; rfl
theorem ask_inS {K : PySem.W.Frag} {H : Hp} {a : Addr} {xs : List Str} {m : Str} {Q : VK} (h : SqL K H a (xs.map V.str)) (q : Q (.bl (decide (m ∈ xs))) H) : rIn K false (.str m) (.ref a) H Q :=
  ⟨a, _, rfl, .inl h, rfl, flat_strs, by
    show Q (.bl (inV (.str m) (xs.map V.str))) H
    rw [inV_strs]; exact q⟩
theorem ask_notInS {K : PySem.W.Frag} {H : Hp} {a : Addr} {xs : List Str} {m : Str} {Q : VK} (h : SqL K H a (xs.map V.str)) (q : Q (.bl (!decide (m ∈ xs))) H) : rIn K true (.str m) (.ref a) H Q :=
  ⟨a, _, rfl, .inl h, rfl, flat_strs, by
    show Q (.bl (!inV (.str m) (xs.map V.str))) H
    rw [inV_strs]; exact q⟩
theorem map_catS {K : PySem.W.Frag} {H : Hp} {a : Addr} {xs ys : List Str} (h : SqL K H a (xs.map V.str ++ ys.map V.str)) : SqL K H a ((xs ++ ys).map V.str) := by rw [List.map_append]; exact h
/-- plain texts may be laid -/
theorem okW_ascii {z : Str} (h : PySem.Txt.isascii z = true) : okW z := by
  unfold PySem.Txt.isascii at h
  unfold okW PyData.strOk
  rw [← Array.all_toList, List.all_eq_true] at h ⊢
  intro c hc
  have := of_decide_eq_true (h c hc)
  exact decide_eq_true (by omega)
/-! one sorted list within another -/
theorem sub_sorted : ∀ {m l : List Str}, m.Pairwise (fun x y => bef x y = true) → l.Pairwise (fun x y => bef x y = true) → l.Nodup → (∀ x ∈ l, x ∈ m) → l.Sublist m
  | [], l, _, _, _, h => by
    cases l with
    | nil => exact .slnil
    | cons x r => exact absurd (h x (List.mem_cons_self ..)) (by simp)
  | y :: t, [], _, _, _, _ => List.nil_sublist _
  | y :: t, x :: r, hm, hl, nd, h => by
    obtain ⟨hm1, hm2⟩ := List.pairwise_cons.mp hm
    obtain ⟨hl1, hl2⟩ := List.pairwise_cons.mp hl
    obtain ⟨nx, nr⟩ := List.nodup_cons.mp nd
    by_cases e : x = y
    · subst e
      refine (sub_sorted hm2 hl2 nr fun z hz => ?_).cons_cons x
      rcases List.mem_cons.mp (h z (List.mem_cons_of_mem _ hz)) with e | k
      · rw [e] at hz; exact absurd hz nx
      · exact k
    · refine List.Sublist.cons y (sub_sorted hm2 hl nd fun z hz => ?_)
      rcases List.mem_cons.mp (h z hz) with e2 | k
      · -- z = y would stand ahead of x
        subst e2
        rcases List.mem_cons.mp hz with e3 | hz'
        · exact absurd e3.symm e
        · have hx : x ∈ t := (List.mem_cons.mp (h x (List.mem_cons_self ..))).resolve_left e
          exact absurd (bef_anti (hl1 z hz') (hm1 x hx)) e
      · exact k
theorem eq_sorted {l m : List Str} (hm : sortedS m = true) (hl : sortedS l = true) (nd : l.Nodup) (h : ∀ x ∈ l, x ∈ m) (len : l.length = m.length) : l = m :=
  (sub_sorted (sorted_pw hm) (sorted_pw hl) nd h).eq_of_length len
end Jg

/-! C(e, .., k = v, ..) that may raise, at the slots as they stand; methods without arguments -/
namespace Jg
open PySem PySem.Spec PyProof.Rows L2
structure MakN (P : Program) (w : World) (K : PySem.W.Frag) (mg : Str → Option Value) (base : Heap) (CX : CXT) (k : Nat) (x : Str) (C : Addr) (n : Nat) (ks : List Str) (gV : List V → List V → List V) (sp : Sp) : Prop where
  mg_ : mg x = some (.ref C)
  mks : PySem.W.makesIn K C = true
  kp : PySem.W.keepIn K (.ref C) = true
  ex : ∃ f fd ps g, FnOk P w K mg base CX k f fd ps sp ∧ PySem.W.findIn K (.ref C) "__init__" = some (some (.ref f)) ∧ PySem.W.isFn K (.ref f) = true ∧ KBn K fd ps (n + 1) ks g gV
def tMakeNS (C : Addr) (n m : Nat) (sp : Sp) (gV : List V → List V → List V) (E : L2.St → XK) (t tk : TA) : TE := fun σ H Q => t σ H fun vs H1 => tk σ H1 fun zs H2 => vs.length = n ∧ zs.length = m ∧ ∀ x dx, H2 x = none → H2 dx = none → dx ≠ x →
  sp (gV (.ref x :: vs) zs) (upd (upd H2 dx (.own x)) x (.ins C dx [])) (fun v H3 => v = .non ∧ Q (.ref x) H3) (E σ)
section
variable {X : Cx} {k j n : Nat} {C : Addr} {ks : List Str} {sp : Sp} {x : Str} {p pos : Pos} {kws : List Keyword} {e : Expr} {es : List Expr} {t ta : TA} {gV : List V → List V → List V} {W : WX}
theorem pe_mkNS (c : MakN X.prog X.w X.K X.mg X.base (L2.CX X.prog X.w) k x C n ks gV sp) (tk : Takes X W) (hr : Room j X.A) (hk : k + 1 ≤ j) (hg : Gl X x) (ha : PA X (e :: es) t) (hkw : PK X kws ta)
    (hall : (backToKw pos (keywordEach kws X.env)).all (·.1.isSome) = true := by rfl) (hks : (backToKw pos (keywordEach kws X.env)).filterMap (·.1) = ks := by rfl) (hdb : (x == ("__debug__" : Str)) = false := by decide)
    (he : starEach (e :: es) X.env = (false, eval e X.env) :: starEach es X.env := by rfl) (hpl : ((backTo pos (starEach (e :: es) X.env)).any (·.1) || (backToKw pos (keywordEach kws X.env)).any (·.1.isNone)) = false := by rfl) :
    PE X (.Call (.Name x p) (e :: es) kws pos) (tMakeNS C n ks.length sp gV (WE W) t ta) := by
  obtain ⟨f, fd, ps, g, F, ini, fn, b⟩ := c.ex
  refine ⟨fun pins s σ H Q I h => wpAny_Call_Name_kw (ld_glob I hg c.mg_ (PySem.W.callWith_KW (h₀ := X.base) I.ok.mod.kin c.kp hall (thn (ha.run pos pins s σ H _ I h) fun us s1 ⟨vs, H1, I1, r, q⟩ => ?_) hpl he) hdb)⟩
  refine thn (hkw.run pos pins s1 σ H1 _ I1 q) fun ws s2 ⟨zs, H2, J, rz, l1, l2, q⟩ => ⟨J.kIn, ?_⟩
  rw [hks]
  let m := s2.heap.objs.size
  have q1 := q (m + 1) m (J.hok.fresh (Nat.le_succ _)) (J.hok.fresh (Nat.le_refl _)) (Nat.ne_of_lt (Nat.lt_succ_self _))
  have J2 := Inv.made (C := C) J
  have r1 : Vals (V.ref (m + 1) :: vs) (Value.ref (m + 1) :: us) := .cons rfl r
  have n1 : (Value.ref (m + 1) :: us).length = n + 1 := by
    rw [List.length_cons, ← r.length, l1]
  have run := F.run _ X.stack _ _ ⟨Value.ref (m + 1) :: us, ks.zip ws⟩ _ _ _ (WE W σ) ((hr.mono hk).make C us (ks.zip ws)) (J2.env0.make C us (ks.zip ws)) (b.to _ (Value.ref (m + 1) :: us) ws J2.kIn n1 (rz.length.symm.trans l2)) (b.rel r1 rz) q1
  show wpAny (model X.prog X.w) X.A (call (.ref C) us (ks.zip ws)) (EP X pins σ Q) X.xe s2
  refine wpAny_call (make_map (f := f) J.kIn c.mks ini (beq_iff_eq.mp fn) (codeAny_mono run fun o s3 z => ?_))
  match o, z with
  | .error err, z => exact passAt tk σ pins _ _ err s3 J2 z
  | .ok (.ret u), z =>
    obtain ⟨v, H3, J3, rv, ev, q3⟩ := J2.after z
    subst ev
    exact ⟨rv, V.ref (m + 1), H3, J3, rfl, q3⟩
end
section
variable {P : Program} {w : World} {K : PySem.W.Frag} {mg : Str → Option Value} {base : Heap} {k : Nat} {C : Addr} {x qual : Str} {st : Stmt} {N ps ks : List Str} {kws : List (Str × V)} {sp : Sp}
theorem IniK.makN (D : IniK K C qual st kws) (m : mg x = some (.ref C)) (mk : PySem.W.makesIn K C = true) (kp : PySem.W.keepIn K (.ref C) = true) (S : FnScope N ps (defScope st)) (len : ∀ vs H Q E, sp vs H Q E → vs.length = ps.length) (n : Nat)
    (ms : List (Str × V)) (g : {α : Type} → List α → List α → List α → List α) (hk : kws ≠ []) (hms : ∀ q ∈ ms, q ∈ kws) (hrel : ∀ {vs mz zs : List V} {us mv ws : List Value}, Vals vs us → Vals mz mv → Vals zs ws → Vals (g vs mz zs) (g us mv ws))
    (hb : ∀ (D : Addr) (doc pm : Value) (an : Option Addr) (cdv ct : Value) (us mv ws : List Value), us.length = n + 1 → mv.length = ms.length → ws.length = ks.length →
      KwChain D ((ms.map (·.1)).zip mv) (bindArgs (PySem.W.fnOf "__init__" qual (defArgs st) (defBody st) (defScope st) .none (.ref D) doc pm an cdv ct) ⟨us, ks.zip ws⟩) (ps.zip (g us mv ws)))
    (body : ∀ f, BodyX P w K mg base N qual st f k sp) : MakN P w K mg base (L2.CX P w) (k + 1) x C n ks (fun vs zs => g vs (ms.map (·.2)) zs) sp :=
  let ⟨f, fd, F, a, i⟩ := D.ex
  let ⟨mv, b⟩ := F.kbinds0 (n + 1) ks ms g hk hms hrel hb
  ⟨m, mk, kp, f, fd, ps, _, F.ok S len (body f), a, i, b⟩
end
/-! ### o.m() -/
def tMeth0S (C : Addr) (m : Str) (sp : Sp) (E : L2.St → XK) (ta : TE) : TE := fun σ H Q => ta σ H fun x H1 => ∃ a dx fs, x = .ref a ∧ H1 a = some (.ins C dx fs) ∧ fs.lookup m = none ∧ sp [.ref a] H1 Q (E σ)
section
variable {X : Cx} {k j : Nat} {C : Addr} {x m : Str} {sp : Sp} {W : WX} {p pos apos : Pos} {o : Expr} {ta : TE}
theorem pe_mz {pl : Sem Bool} (c : Met X.prog X.w X.K X.mg X.base CX0 k C m sp) (cl : Cls X.K C) (hr : Room j X.A) (hk : k ≤ j) (he : PE X o ta)
    (ht : eval (.Call (.Attribute o m apos) [] [] pos) X.env = (do
      let ov ← eval o X.env
      standAt apos.atName
      let (f, first) ← holding [ov] (getMethod ov m pl)
      callWith pos f first (backTo pos (starEach [] X.env)) (backToKw pos (keywordEach [] X.env))) := by rfl) :
    PE X (.Call (.Attribute o m apos) [] [] pos) (tMeth C m sp [] E0 ta tNil) := by
  obtain ⟨f, fd, ps, F, a, i, kp, b⟩ := c.ex
  exact pe_meth0 (pl := pl) he cl ⟨a, i, kp⟩ F (hr.mono hk) b .nil pass0 ht
theorem pe_mzS {pl : Sem Bool} (c : Met X.prog X.w X.K X.mg X.base (L2.CX X.prog X.w) k C m sp) (cl : Cls X.K C) (tk : Takes X W) (hr : Room j X.A) (hk : k ≤ j) (he : PE X o ta)
    (ht : eval (.Call (.Attribute o m apos) [] [] pos) X.env = (do
      let ov ← eval o X.env
      standAt apos.atName
      let (f, first) ← holding [ov] (getMethod ov m pl)
      callWith pos f first (backTo pos (starEach [] X.env)) (backToKw pos (keywordEach [] X.env))) := by rfl) :
    PE X (.Call (.Attribute o m apos) [] [] pos) (tMeth0S C m sp (WE W) ta) := by
  obtain ⟨f, fd, ps, F, at_, i, kp, b⟩ := c.ex
  refine ⟨fun pins s σ H Q I h => PySem.W.methodCall_KW (pl := pl) (thn (he.run pins s σ H _ I h) fun u s1 ⟨x, H1, I1, rx, a, dx, fs, ex, ea, l, q⟩ => ?_) ht⟩
  subst ex
  obtain rfl : u = Value.ref a := rx
  refine getmeth_ok I1 ea cl ⟨at_, i, kp⟩ l ?_
  exact PySem.W.callWith_K0 (first := [.ref a]) I1.kIn kp (run_fnS (E := WE W) (us := [.ref a]) (vs := [.ref a]) F (hr.mono hk) b (passAt tk σ) I1 (.cons rfl .nil) q)
end
end Jg

/-! sum(a list of lists, a list) -/
namespace Jg
open PySem PySem.Spec PyProof.Rows L2
theorem args_sum2 (a b : Value) : argsOk "sum" ⟨[a, b], []⟩ := by unfold argsOk; kernel_rfl
theorem sub_list_bytearray : isSubtype (.type "list") (.type "bytearray") = pure false := by rw [isSubtype_type]; kernel_rfl
/-- a plain list -/
def PlL (h : Heap) (a : Addr) (its : List Value) : Prop := ∃ n, h.get? a = some { cls := .type "list", data := .seq its.toArray n }
section
variable {P : Program} {w : World} {A : Around} {E : Value → Shared → Prop} {s : Shared}
theorem lists_loop {it st : Addr} {fp wr : List Addr} {G : Array GenState → Array GenState → Prop} {m : Nat} {Pv : Nat → Value → Prop} {At : Nat → Shared → Prop} {R : Result → Shared → Prop} (T : WalksS P w A.in1 it fp wr G m Pv At) (off : st ∉ fp) (ls : List (Addr × List Value)) (em : m = ls.length)
    (vals : ∀ i v, Pv i v → ∃ p, ls[i]? = some p ∧ v = .ref p.1) (apart : ∀ p ∈ ls, p.1 ∉ st :: wr) (base : List Value) (few : (base ++ ls.flatMap (·.2)).length ≤ sizeLine) (hAt : ∀ i s, At i s → ∀ b ∈ wr, ∃ o, s.heap.get? b = some o) :
    ∀ (left i : Nat) (s : Shared) (t : Addr) (c : Nat), m - i = left → i ≤ m → At i s → (∀ p ∈ ls, PlL s.heap p.1 p.2) → PlL s.heap t (base ++ (ls.take i).flatMap (·.2)) → t ∉ st :: wr →
      s.heap.get? st = some { cls := .type "list", dict := none, data := .seq #[.ref t] c, slots := #[] } →
      (∀ q t', Moved (st :: wr) G s q → PlL q.heap t' (base ++ ls.flatMap (·.2)) → (t' = t ∧ i = m ∨ st < t') → R (.ok (.ret (.ref t'))) q) →
      codeAny (model P w) A (.builtin "sum.loop" ⟨[.ref it, .ref st, rawInt 2, rawInt 0], []⟩) R s := by
  have offw : st ∉ wr := fun z => off (T.sub _ z)
  have up : ∀ b ∈ wr, b ∈ st :: wr := fun _ z => List.mem_cons_of_mem _ z
  intro left
  induction left with
  | zero =>
    intro i s t c e le at_ L Lt nt eS k
    obtain rfl : i = m := by omega
    refine codeAny_builtin F.entry_sum_loop ?_
    rw [Around.under_plainId F.plain_sum_loop _]
    show wpAny _ A.in1 (seqItems? (.ref st) >>= _) _ _ s
    refine wpAny_bind (wpAny_seqItems eS rfl ?_)
    show wpAny _ A.in1 (tryCatch (pyNext (.ref it)) _ >>= _) _ _ s
    refine wpAny_bind (wpAny_tryCatch (T.done s _ _ at_ fun q mv => ?_))
    have all : ls.take i = ls := List.take_of_length_le (by omega)
    rw [all] at Lt
    obtain ⟨n, et⟩ := Lt
    have mv' := mv.mono up
    exact wpAny_pure (k q t mv' ⟨n, mv'.heap _ _ nt et⟩ (.inl ⟨rfl, rfl⟩))
  | succ left ih =>
    intro i s t c e le at_ L Lt nt eS k
    have lt : i < m := by omega
    refine codeAny_builtin F.entry_sum_loop ?_
    rw [Around.under_plainId F.plain_sum_loop _]
    show wpAny _ A.in1 (seqItems? (.ref st) >>= _) _ _ s
    refine wpAny_bind (wpAny_seqItems eS rfl ?_)
    show wpAny _ A.in1 (tryCatch (pyNext (.ref it)) _ >>= _) _ _ s
    refine wpAny_bind (wpAny_tryCatch (T.item i s _ _ lt at_ fun v q pv at2 mv => ?_))
    obtain ⟨p, ep, rfl⟩ := vals i v pv
    have hp := List.mem_of_getElem? ep
    have mv' := mv.mono up
    have eS2 := mv.heap st _ offw eS
    obtain ⟨n, et⟩ := Lt
    have et2 := mv'.heap _ _ nt et
    have L2' : ∀ p ∈ ls, PlL q.heap p.1 p.2 := fun p hp => let ⟨n, e⟩ := L p hp; ⟨n, mv'.heap _ _ (apart p hp) e⟩
    obtain ⟨n2, ev⟩ := L2' p hp
    have tk : ls.take (i + 1) = ls.take i ++ [p] := by rw [List.take_succ, ep]; rfl
    have nx : base ++ (ls.take (i + 1)).flatMap (·.2) = (base ++ (ls.take i).flatMap (·.2)) ++ p.2 := by rw [tk, List.flatMap_append, List.append_assoc]; simp
    have sz : (base ++ (ls.take (i + 1)).flatMap (·.2)).length ≤ sizeLine := by
      have e2 : ls = ls.take (i + 1) ++ ls.drop (i + 1) := (List.take_append_drop _ _).symm
      have f := few
      rw [e2, List.flatMap_append] at f
      simp only [List.length_append] at f ⊢
      omega
    rw [nx, List.length_append] at sz
    show wpAny _ A.in1 ((holding [Value.ref p.1] (binaryOp .Add (.ref t) (.ref p.1))).attempt >>= _) _ _ q
    have stlt : st < q.heap.objs.size := Heap.lt_size eS2
    have szw : ∀ b ∈ wr, b < q.heap.objs.size := fun b hb => let ⟨o, e⟩ := hAt _ _ at2 b hb; Heap.lt_size e
    · refine wpAny_bind (wpAny_attempt (wpAny_holding (PySem.P.add_list et2 ev ?_ (by rw [List.size_toArray, List.size_toArray]; exact sz))))
      have ea : (base ++ (ls.take i).flatMap (·.2)).toArray ++ p.2.toArray = (base ++ (ls.take (i + 1)).flatMap (·.2)).toArray := by rw [nx]; simp
      rw [ea]
      let h1 := q.heap.push { cls := .type "list", data := .seq (base ++ (ls.take (i + 1)).flatMap (·.2)).toArray }
      have grown : ∀ b o, q.heap.get? b = some o → h1.get? b = some o := fun b o z => Heap.get?_push_of_some _ z
      have eS3 : h1.get? st = some { cls := .type "list", dict := none, data := .seq #[.ref t] c, slots := #[] } := grown _ _ eS2
      show wpAny _ A.in1 (updateSeq st (fun _ => #[.ref q.heap.objs.size]) >>= _) _ _ { q with heap := h1 }
      refine wpAny_bind (wpAny_updateSeq (s := { q with heap := h1 }) eS3 rfl ?_)
      have eS4 := Heap.get?_update_self (Obj.mapSeq fun _ => #[Value.ref q.heap.objs.size]) eS3 rfl
      refine wpAny_bind (wpAny_letGo ?_)
      refine wpAny_bind (wpAny_updateSeq (s := { q with heap := h1.update st (Obj.mapSeq fun _ => #[Value.ref q.heap.objs.size]) }) eS4 rfl ?_)
      have eS5 := Heap.get?_update_self (Obj.mapSeq fun _ => #[Value.ref q.heap.objs.size]) eS4 rfl
      let h3 := (h1.update st (Obj.mapSeq fun _ => #[Value.ref q.heap.objs.size])).update st (Obj.mapSeq fun _ => #[Value.ref q.heap.objs.size])
      have still : ∀ b, b ≠ st → ∀ o, h1.get? b = some o → h3.get? b = some o := fun b n o z => (Heap.get?_update_other _ _ fun e => n e.symm).trans ((Heap.get?_update_other _ _ fun e => n e.symm).trans z)
      have newA : h1.get? q.heap.objs.size = some { cls := .type "list", data := .seq (base ++ (ls.take (i + 1)).flatMap (·.2)).toArray } := Heap.get?_push_size _ rfl
      refine wpAny_pure ⟨plainId_quiet F.plain_sum_loop _, ih (i + 1) { q with heap := h3 } q.heap.objs.size _ (by omega) lt (T.frame _ q _ _ at2 (Nat.le_refl _) fun b hb o z => still b (fun n => off (n ▸ hb)) o (grown _ _ z))
        (fun r hr => let ⟨n, e⟩ := L2' r hr; ⟨n, still _ (fun z => apart r hr (z ▸ List.mem_cons_self)) _ (grown _ _ e)⟩) ⟨0, still _ (Nat.ne_of_gt stlt) _ newA⟩ (fun z => ?_) eS5 fun y t' mv2 Ly fr => ?_⟩
      · rcases List.mem_cons.mp z with z | z
        · exact absurd z (Nat.ne_of_gt stlt)
        · exact absurd (szw _ z) (Nat.lt_irrefl _)
      · refine k y t' (Moved.trans T.gtrans (mv'.then_heap (Nat.le_refl _) fun b o hb z => still b (fun n => hb (n ▸ List.mem_cons_self)) o (grown _ _ z)) mv2) Ly (.inr ?_)
        rcases fr with ⟨rfl, _⟩ | h
        · exact stlt
        · exact h
/-- what stands behind the sum -/
abbrev SumDone (s : Shared) (out : List Value) (t : Addr) (s₂ : Shared) : Prop :=
  ∃ h' tk, s₂ = { s with heap := h', toks := tk } ∧ PlL h' t out ∧ s.heap.objs.size ≤ t ∧ ∀ b o, s.heap.get? b = some o → h'.get? b = some o
theorem sum_of_lists {l b : Addr} {items : Array Value} {Q : Value → Shared → Prop} (hh : A.handled = none) (hl : s.heap.IsList l items) (ls : List (Addr × List Value)) (ez : items.size = ls.length) (hit : ∀ (i : Nat) (v : Value), items[i]? = some v → ∃ p, ls[i]? = some p ∧ v = .ref p.1)
    (L : ∀ p ∈ ls, PlL s.heap p.1 p.2) (base : List Value) (B : PlL s.heap b base) (ne : 0 < ls.length) (few : (base ++ ls.flatMap (·.2)).length ≤ sizeLine) (h : ∀ s₂ t, SumDone s (base ++ ls.flatMap (·.2)) t s₂ → Q (.ref t) s₂) :
    wpAny (model P w) A (call (.builtin "sum") [.ref l, .ref b]) Q E s := by
  refine call_function_tree F.kind_sum F.plain_sum F.entry_sum (args_sum2 _ _) ?_
  unfold Builtin.«sum»
  simp only [List.length_cons, List.length_nil]
  rw [if_neg (by decide)]
  refine wpAny_bind (wpAny_of_eq (show Builtin.Builtins.bindParams "sum" ["start"] 0 ⟨[.ref b], []⟩ = pure [some (.ref b)] from rfl) ?_)
  obtain ⟨⟨ocls, odict, odata, oslots⟩, hol, hcl, nl, hdl⟩ := hl
  simp only at hcl hdl
  subst hcl; subst hdl
  have lt : l < s.heap.objs.size := Heap.lt_size hol
  refine wpAny_bind (wpAny_pyIter_list ⟨_, hol, rfl, nl, rfl⟩ ?_)
  have grown1 : ∀ c o, s.heap.get? c = some o → (s.heap.push { cls := .type "list_iterator", data := .fields #[.ref l, .int 0 0] }).get? c = some o := fun c o z => Heap.get?_push_of_some _ z
  obtain ⟨nb, eb⟩ := id B
  have tyb : Shared.TypeIs { s with heap := s.heap.push { cls := .type "list_iterator", data := .fields #[.ref l, .int 0 0] } } (.ref b) "list" := ⟨_, grown1 _ _ eb, rfl⟩
  show wpAny _ _ (pure ((Value.ref b, (2 : Int))) >>= _) _ _ _
  refine wpAny_bind (wpAny_pure ?_)
  simp only [List.forIn_cons, List.forIn_nil]
  refine wpAny_bind (wpAny_bind (wpAny_bind (wpAny_isInstance (T := "list") (b := false) tyb F.sub_list_str ?_)))
  simp only [Bool.false_eq_true, if_false]
  refine wpAny_pure (wpAny_bind (wpAny_bind (wpAny_isInstance (T := "list") (b := false) tyb F.sub_list_bytes ?_)))
  simp only [Bool.false_eq_true, if_false]
  refine wpAny_pure (wpAny_bind (wpAny_bind (wpAny_isInstance (T := "list") (b := false) tyb sub_list_bytearray ?_)))
  simp only [Bool.false_eq_true, if_false]
  refine wpAny_pure (wpAny_pure ?_)
  refine wpAny_bind (wpAny_newObj_type ?_)
  let h1 := s.heap.push { cls := .type "list_iterator", data := .fields #[.ref l, .int 0 0] }
  have sz1 : h1.objs.size = s.heap.objs.size + 1 := Heap.size_push ..
  have grown2 : ∀ c o, s.heap.get? c = some o → (h1.push { cls := .type "list", data := .seq #[.ref b] }).get? c = some o := fun c o z => Heap.get?_push_of_some _ (grown1 _ _ z)
  have apart : l ≠ s.heap.objs.size := Nat.ne_of_lt lt
  have old : ∀ {c : Addr} {o : Obj}, s.heap.get? c = some o → c ∉ [h1.objs.size, s.heap.objs.size] := fun {c o} z m => by
    have z1 := Heap.lt_size z
    rcases List.mem_cons.mp m with m | m
    · rw [sz1] at m
      exact Nat.ne_of_lt (Nat.lt_succ_of_lt z1) m
    · rcases List.mem_cons.mp m with m | m
      · exact Nat.ne_of_lt z1 m
      · cases m
  refine wpAny_pure ⟨plainId_quiet F.plain_sum_loop _, lists_loop (P := P) (w := w) (Walks.list (show A.in1.handled = none by simp [hh]) s.heap.objs.size l apart items).toS (st := h1.objs.size) ?_ ls ez hit (fun p hp => let ⟨n, e⟩ := L p hp; old e) base few ?_ (items.size - 0) 0 _ b 0 (by omega) (Nat.zero_le _)
    ⟨⟨_, Heap.get?_push_of_some _ (Heap.get?_push_size _ rfl), rfl, rfl⟩, ⟨_, grown2 _ _ hol, rfl, nl, rfl⟩⟩ (fun p hp => let ⟨n, e⟩ := L p hp; ⟨n, grown2 _ _ e⟩) ⟨nb, by simpa using grown2 _ _ eb⟩ (old eb) (Heap.get?_push_size _ rfl) fun q t' mv Lq fr => ?_⟩
  · intro z
    rcases List.mem_cons.mp z with z | z
    · rw [sz1] at z
      exact Nat.ne_of_gt (Nat.lt_succ_self _) z
    · rcases List.mem_cons.mp z with z | z
      · rw [sz1] at z
        exact Nat.ne_of_gt (Nat.lt_succ_of_lt lt) z
      · cases z
  · rintro i s' ⟨⟨o, e, _⟩, _⟩ c hc
    obtain rfl := List.mem_singleton.mp hc
    exact ⟨o, e⟩
  · obtain ⟨h', g2, d', tk', os'⟩ := q
    obtain rfl : g2 = s.gens := mv.gens
    obtain rfl : d' = s.drawn := mv.drawn
    obtain rfl : os' = s.os := mv.os
    refine h _ t' ⟨h', tk', rfl, Lq, ?_, fun c o e => mv.heap c o (old e) (grown2 _ _ e)⟩
    rcases fr with ⟨_, z⟩ | z
    · exact absurd z (by have := ne; omega)
    · rw [sz1] at z
      exact Nat.le_of_lt (Nat.lt_trans (Nat.lt_succ_self _) z)
end
/-- sum(xs, ys): xs a list of lists, ys a list -/
def rSumL (K : PySem.W.Frag) : List V → Hp → VK → Prop := fun vs H Q => ∃ (l b : Addr) (ls : List (Addr × List V)) (base : List V), vs = [.ref l, .ref b] ∧ SqL K H l (ls.map fun p => V.ref p.1) ∧ (∀ p ∈ ls, H p.1 = some (.lst p.2)) ∧ H b = some (.lst base) ∧ 0 < ls.length ∧ (base ++ ls.flatMap (·.2)).length ≤ sizeLine ∧
  ∀ p, H p = none → Q (.ref p) (upd H p (.lst (base ++ ls.flatMap (·.2))))
theorem cr_sumL {X : Cx} (hc : X.calm = true) : CallR X (.builtin "sum") (rSumL X.K) := by
  intro pins s σ H vs us Q I r h
  obtain ⟨l, b, ls, base, rfl, sq, el, eb, ne, few, q⟩ := h
  obtain ⟨its, rv, hl, _⟩ := I.list sq
  have h1 := rv.length
  match us, r with
  | [u1, u2], .cons r1 (.cons r2 .nil) =>
    cases (show u1 = Value.ref l from r1)
    cases (show u2 = Value.ref b from r2)
    -- the lists, as they stand
    obtain ⟨zb, ib, nb, rb, lb, ebh⟩ := I.lstM eb
    have each : ∀ ls : List (Addr × List V), (∀ p ∈ ls, H p.1 = some (.lst p.2)) → ∃ ms : List (Addr × List Value), ms.map (·.1) = ls.map (·.1) ∧ (∀ p ∈ ms, PlL s.heap p.1 p.2) ∧ Vals (ls.flatMap (·.2)) (ms.flatMap (·.2)) := by
      intro ls
      induction ls with
      | nil => intro _; exact ⟨[], rfl, (fun _ h => nomatch h), .nil⟩
      | cons p t ih =>
        intro h
        obtain ⟨ms, e1, e2, e3⟩ := ih fun q hq => h q (List.mem_cons_of_mem _ hq)
        obtain ⟨_, ip, np, rp, _, ep⟩ := I.lstM (h p (List.mem_cons_self ..))
        refine ⟨(p.1, ip) :: ms, by rw [List.map_cons, List.map_cons, e1], fun q hq => ?_, ?_⟩
        · rcases List.mem_cons.mp hq with e | hq
          · rw [e]; exact ⟨np, ep⟩
          · exact e2 q hq
        · rw [List.flatMap_cons, List.flatMap_cons]
          exact rp.append e3
    obtain ⟨ms, e1, e2, e3⟩ := each ls el
    have lms : ms.length = ls.length := by simpa using congrArg List.length e1
    have rall : Vals (base ++ ls.flatMap (·.2)) (ib ++ ms.flatMap (·.2)) := rb.append e3
    have la := rall.length
    refine sum_of_lists (I.ok.hd hc) hl.isList ms (by rw [List.size_toArray, ← h1, List.length_map, lms]) (fun i v hv => ?_) e2 ib ⟨nb, ebh⟩ (by omega) (by omega) fun s₂ t ⟨h', tk, es, Lt, fr, kept⟩ => ?_
    · have hv' : its[i]? = some v := by simpa using hv
      have lt : i < ms.length := by
        rcases Nat.lt_or_ge i ms.length with h | h
        · exact h
        · have n := List.getElem?_eq_none (l := its) (i := i) (by rw [← h1, List.length_map]; omega)
          rw [n] at hv'; cases hv'
      have em : ms[i]? = some ms[i] := List.getElem?_eq_getElem lt
      have el2 : (ls.map fun p => V.ref p.1)[i]? = some (V.ref ms[i].1) := by
        have z : (ls.map (·.1))[i]? = some ms[i].1 := by rw [← e1, List.getElem?_map, em]; rfl
        rw [List.getElem?_map] at z ⊢
        cases c : ls[i]? with
        | none => rw [c] at z; cases z
        | some p => rw [c] at z; exact congrArg some (congrArg V.ref (Option.some.inj z))
      obtain ⟨u, hu, ru⟩ := rv.get el2
      rw [hv'] at hu
      cases hu
      exact ⟨ms[i], em, ru⟩
    · subst es
      obtain ⟨n, et⟩ := Lt
      exact ⟨.ref t, upd H t (.lst (base ++ ls.flatMap (·.2))), I.laid (t' := tk) kept fr ⟨few, _, n, rall, et⟩, rfl, q _ (I.hok.fresh fr)⟩
end Jg

/-! sorted(a list of data) -/
namespace Jg
open PySem PySem.Spec PyProof.Rows L2
/-- the sorted values -/
def srtV (bs : List (V × PyData)) : List V := (bs.mergeSort (PySem.W.dataLe false Prod.snd)).map Prod.fst
def rSortD (K : PySem.W.Frag) : List V → Hp → VK → Prop := fun vs H Q => ∃ (a : Addr) (bs : List (V × PyData)), vs = [.ref a] ∧ SqL K H a (bs.map Prod.fst) ∧ (∀ b ∈ bs, Dp K H b.1 b.2 ∧ b.2.depth ≤ 40) ∧ PySem.W.AllAlike (bs.map Prod.snd) ∧ PySem.W.Sortable (bs.map Prod.snd) ∧
  ∀ p, H p = none → Q (.ref p) (upd H p (.lst (srtV bs)))
theorem each_vals : ∀ {us : List Value} {bs : List (V × PyData)}, PySem.W.EachIs (fun v b => RelV b.1 v) us bs → Vals (bs.map Prod.fst) us
  | _, _, .nil => .nil
  | _, _, .cons r t => .cons r (each_vals t)
section
variable {X : Cx} {pins : List (Addr × Obj)} {σ : L2.St} {H : Hp} {s : Shared}
theorem vals_each (I : Inv X pins σ H s) : ∀ {us : List Value} {bs : List (V × PyData)}, Vals (bs.map Prod.fst) us → (∀ b ∈ bs, Dp X.K H b.1 b.2 ∧ b.2.depth ≤ 40) → PySem.W.EachIs (fun v b => RelV b.1 v) us bs ∧ PySem.W.EachIs (fun v b => ∃ as, Reads s.heap v b.2 as) us bs
  | us, [], r, _ => by cases r; exact ⟨.nil, .nil⟩
  | us, b :: bs, r, h => by
    have r' : Vals (b.1 :: bs.map Prod.fst) us := r
    cases r' with
    | cons r1 r2 =>
      obtain ⟨e1, e2⟩ := vals_each I r2 fun q hq => h q (List.mem_cons_of_mem _ hq)
      exact ⟨.cons r1 e1, .cons (Dp.reads I b.2 b.1 _ (h b (List.mem_cons_self ..)).1 r1) e2⟩
end
theorem cr_sortD {X : Cx} (hu : X.A.units + 64 < cLine) : CallR X (.builtin "sorted") (rSortD X.K) := by
  intro pins s σ H vs us Q I r h
  obtain ⟨a, bs, rfl, sq, dp, al, so, q⟩ := h
  obtain ⟨its, rv, hl, len⟩ := I.list sq
  rw [Vals.ref1 r]
  obtain ⟨e1, e2⟩ := vals_each I rv dp
  rw [List.length_map] at len
  refine PySem.W.sorted_data (enc := Prod.snd) (R := fun v b => RelV b.1 v) hl.isList e1 e2 al so len (fun b hb => by have := (dp b hb).2; omega) fun out lo eo => ?_
  obtain ⟨ep, he'⟩ := PyProof.Rows.sortedAll_at s.heap its out.toArray
  have hlen : (srtV bs).length ≤ sizeLine := by
    unfold srtV
    rw [List.length_map, List.length_mergeSort]; exact len
  exact ⟨.ref _, upd H (s.heap.objs.size + 1) (.lst (srtV bs)), I.laid (t' := s.toks) (fun _ _ => PyProof.Rows.sortedAll_old) (Nat.le_succ _) ⟨hlen, out, ep, each_vals eo, by simpa using he'⟩, rfl, q _ (I.hok.fresh (Nat.le_succ _))⟩
/-! ### rows by their first text -/
theorem dataLt_first {a b : Str} {xs ys : List PyData} (h : a ≠ b) : PySem.W.dataLt (.tuple (.str a :: xs)) (.tuple (.str b :: ys)) = decide (a.cps.toList < b.cps.toList) := by
  rw [PySem.W.dataLt_tuple, PySem.W.dataLt_all_no (x := .str a) (y := .str b) (by simp [PySem.W.alike]) (by rw [eqv_str]; exact decide_eq_false h), PySem.W.dataLt_str]
theorem bef_dec (x y : Str) : bef x y = !decide (y.cps.toList < x.cps.toList) := by unfold bef; rw [ltCps_eq]
theorem nd_inj {α β : Type} {z : α → β} : ∀ {rows : List α} {a b : α}, (rows.map z).Nodup → a ∈ rows → b ∈ rows → z a = z b → a = b
  | p :: t, a, b, nd, ha, hb, e => by
    rw [List.map_cons, List.nodup_cons] at nd
    rcases List.mem_cons.mp ha with ea | ha
    · rcases List.mem_cons.mp hb with eb | hb
      · rw [ea, eb]
      · exact absurd (List.mem_map.mpr ⟨b, hb, by rw [← e, ea]⟩) nd.1
    · rcases List.mem_cons.mp hb with eb | hb
      · exact absurd (List.mem_map.mpr ⟨a, ha, by rw [e, eb]⟩) nd.1
      · exact nd_inj nd.2 ha hb e
/-- some rows, each with a text of its own, sorted as data -/
theorem srtV_rows {α : Type} {rows : List α} {z : α → Str} {v : α → V} {rest : α → List PyData} (nd : (rows.map z).Nodup) :
    srtV (rows.map fun r => (v r, PyData.tuple (.str (z r) :: rest r))) = (rows.mergeSort fun r q => bef (z r) (z q)).map v ∧ (rows.mergeSort fun r q => bef (z r) (z q)).map z = srtW (rows.map z) := by
  have key : ∀ a ∈ rows, ∀ b ∈ rows, bef (z a) (z b) = PySem.W.dataLe false (Prod.snd : V × PyData → PyData) (v a, PyData.tuple (.str (z a) :: rest a)) (v b, PyData.tuple (.str (z b) :: rest b)) := by
    intro a ha b hb
    by_cases e : z a = z b
    · have eab : a = b := nd_inj nd ha hb e
      subst eab
      rw [bef_refl]
      have t := (PySem.W.sortLe_total (PyProof.Rows.listOrd PyProof.Rows.itemOrd) false fun b : V × PyData => PySem.W.keyToks b.2).refl (v a, PyData.tuple (.str (z a) :: rest a))
      exact t.symm
    · show _ = !PySem.W.dataLt (.tuple (.str (z b) :: rest b)) (.tuple (.str (z a) :: rest a))
      rw [dataLt_first (fun h => e h.symm), bef_dec]
  constructor
  · unfold srtV
    rw [← PySem.W.sort_maps (fun r => (v r, PyData.tuple (.str (z r) :: rest r))) key, List.map_map]
    rfl
  · exact PySem.W.sort_maps z fun a _ b _ => rfl
end Jg

/-! isinstance(e, (A, B)) of a caught exception; a try in a loop -/
namespace Jg
open PySem PySem.Spec PyProof.Rows L2
def rIsXT (K : PySem.W.Frag) (cls : Value) (C a : Addr) (d : Option Addr) : List V → Hp → VK → Prop := fun xs H Q => ∃ (tp : Addr) (cs : List V) (us : List Value) (b : Bool) (dd : Addr) (fs : List (Str × V)), xs = [.ref a, .ref tp] ∧ H tp = some (.tup cs) ∧ Paired ClsV cs us ∧ cls = .ref C ∧ d = some dd ∧ H dd = some (.xd fs) ∧ PySem.W.kitAny K (.ref C) us = some b ∧ Q (.bl b) H
theorem kAny2 {K : PySem.W.Frag} {t c1 c2 : Value} {b1 b2 : Bool} (h1 : PySem.W.kitOne K t c1 = some b1) (h2 : PySem.W.kitOne K t c2 = some b2) : PySem.W.kitAny K t [c1, c2] = some (b1 || b2) := by
  show (match PySem.W.kitOne K t c1 with | some true => some true | some false => PySem.W.kitAny K t [c2] | none => none) = _
  rw [h1]
  cases b1 with
  | true => rfl
  | false =>
    show (match PySem.W.kitOne K t c2 with | some true => some true | some false => some false | none => none) = _
    rw [h2]
    cases b2 <;> rfl
section
variable {X : Cx} {a C : Addr} {oe : Obj} {cls : Value} {d : Option Addr} {pn : List (Addr × Obj)}
theorem call_isXT (T : ExcK X.K C) (hz : Zc cls d oe) (hf : ∃ vs, oe.data = .fields vs) : CallR (X.suite a ((a, oe) :: pn)) (.builtin "isinstance") (rIsXT X.K cls C a d) := by
  intro pins s σ H xs us Q I r h
  obtain ⟨tp, cs, ws, b, dd, fs, rfl, hT, k0, rfl, rfl, e, k, q⟩ := h
  obtain ⟨u1, u2, rfl, r1, r2⟩ := vals2 r
  cases (show u1 = Value.ref a from r1)
  cases (show u2 = Value.ref tp from r2)
  obtain ⟨_, its, rv, o, h1, h2, n, h3⟩ := (show ObjOk X.prog X.w H s.heap tp (.tup cs) from I.hok tp _ hT)
  have e3 := ClsV.all k0 rv
  subst e3
  obtain ⟨od, J⟩ := exc_inst I hz hf e
  have cl : (PySem.W.clsIn X.K C).isSome = true := by
    obtain ⟨cd, z, _⟩ := PySem.W.any_some T.xf.hdC
    rw [z]; rfl
  obtain ⟨oc, od2, dt, sl⟩ := o
  simp only at h2 h3
  subst h2 h3
  exact PySem.W.kia_tup (PySem.W.kitx_exc cl T.xf.ga T.xf.gg T.xf.exC T.ha T.hn T.ht T.hm) I.kIn J h1 k (fun z => nomatch z) fun tk => ⟨.bl b, H, I.kept (t' := tk) fun _ _ z => z, rfl, q⟩
end
/-- a try in a loop: its reading by a name -/
def tTry (tb : WX → TS) (w : Ends → WX) : TS := fun D σ H => tb (w D) D σ H
theorem ps_tryT {X : Cx} {Wout : WX} {body : List Stmt} {h₀ : ExceptHandler} {hds : List ExceptHandler} {w : Ends → WX} {pos : Pos} {tb : WX → TS} (hd : Hds X Wout (h₀ :: hds) w) (hs : X.stack = X.env :: X.outer) (fr : X.env.frame = some X.env.locals) (hN : X.N.Nodup) (tk : Takes X Wout)
    (hb : ∀ (W : WX) (pn : List (Addr × Obj)) (xe : Value → Shared → Prop), Takes (X.tr pn xe) W → PassesOwn (model X.prog X.w) X.A X.env xe → PSs (X.tr pn xe) body (tb W)) :
    PS X (.Try body (h₀ :: hds) [] [] pos) (tTry tb w) := ps_try hd hs fr hN tk hb
end Jg

/-! repr of a list among whose items are dicts of data -/
namespace Jg
open PySem PySem.Spec PyProof.Rows L2
def keyD : Key → PyData
  | .inl i => .int i
  | .inr x => .str x
def kvD (da : List (Key × PyData)) : List (PyData × PyData) := da.map fun p => (keyD p.1, p.2)
/-- a dict's values are data -/
def DvL (K : PySem.W.Frag) (H : Hp) (ks : List (Key × V)) (da : List (Key × PyData)) : Prop := Paired (fun p q => p.1 = q.1 ∧ Dp K H p.2 q.2) ks da
inductive Dq (K : PySem.W.Frag) (H : Hp) : V → PyData → Prop
  | dat {v : V} {d : PyData} (h : Dp K H v d) : Dq K H v d
  | dic {a : Addr} {ks : List (Key × V)} {da : List (Key × PyData)} (h : H a = some (.dK ks)) (dv : DvL K H ks da) : Dq K H (.ref a) (.dict (kvD da))
inductive DqAll (K : PySem.W.Frag) (H : Hp) : List V → List PyData → Prop
  | nil : DqAll K H [] []
  | cons {v : V} {vs : List V} {d : PyData} {ds : List PyData} : Dq K H v d → DqAll K H vs ds → DqAll K H (v :: vs) (d :: ds)
def rRpL (K : PySem.W.Frag) : List V → Hp → VK → Prop := fun xs H Q => ∃ a vs ds, xs = [.ref a] ∧ SqL K H a vs ∧ DqAll K H vs ds ∧ PyData.showableAll ds = true ∧ PyData.depthAll ds ≤ 40 ∧ (PyData.list ds).shown.length ≤ sizeLine ∧ Q (.str (PyData.list ds).shown) H
theorem noD_keys : ∀ da : List (Key × PyData), PyData.hasDictAll ((kvD da).map (·.1)) = false
  | [] => rfl
  | p :: r => by
    have ih := noD_keys r
    obtain ⟨k, d⟩ := p
    show (PyData.hasDict (keyD k) || PyData.hasDictAll ((kvD r).map (·.1))) = false
    rw [ih]
    cases k <;> rfl
theorem noD_all {K : PySem.W.Frag} {H : Hp} {ks : List (Key × V)} {da : List (Key × PyData)} (dv : DvL K H ks da) : PyData.hasDictAll ((kvD da).map (·.2)) = false := by
  unfold DvL at dv
  induction dv with
  | nil => rfl
  | @cons p q ps qs r _ ih =>
    show (PyData.hasDict q.2 || PyData.hasDictAll ((kvD qs).map (·.2))) = false
    rw [ih, noDict _ _ _ _ r.2]; rfl
section
variable {X : Cx} {pins : List (Addr × Obj)} {σ : L2.St} {H : Hp} {s : Shared}
theorem reads_keys {P : Program} {w : World} {h : Heap} {K : PySem.W.Frag} : ∀ {es : List DictEntry} {kvs : List (Key × Value)} {ks : List (Key × V)} {da : List (Key × PyData)}, Pairs (mixKind P w) es kvs → KV ks kvs → DvL K H ks da → ∃ as, ReadsAll h (es.map (·.key)) ((kvD da).map (·.1)) as := by
  intro es kvs ks da p
  induction p generalizing ks da with
  | nil =>
    intro kv dv
    cases kv
    cases dv
    exact ⟨_, ReadsAll.nil⟩
  | @cons e kv es kvs hk hv _ ih =>
    intro r dv
    cases r with
    | cons r1 r2 =>
      cases dv with
      | cons d1 d2 =>
        obtain ⟨as, R⟩ := ih r2 d2
        rename_i p0 _ q0 _
        have e1 : q0.1 = kv.1 := d1.1.symm.trans r1.1
        obtain ⟨kk, dd⟩ := q0
        subst e1
        rcases keyIs_shape hk with ⟨i, t, e2, e3⟩ | ⟨x, t, e2, e3⟩
        · refine ⟨_, ReadsAll.cons (as := []) ?_ R⟩
          show Reads h e.key (keyD kv.1) []
          rw [e3, e2]; exact Reads.int i t
        · refine ⟨_, ReadsAll.cons (as := []) ?_ R⟩
          show Reads h e.key (keyD kv.1) []
          rw [e3, e2]; exact Reads.str x t
theorem reads_vals (I : Inv X pins σ H s) {P : Program} {w : World} : ∀ {es : List DictEntry} {kvs : List (Key × Value)} {ks : List (Key × V)} {da : List (Key × PyData)}, Pairs (mixKind P w) es kvs → KV ks kvs → DvL X.K H ks da → ∃ as, ReadsAll s.heap (es.map (·.val)) ((kvD da).map (·.2)) as := by
  intro es kvs ks da p
  induction p generalizing ks da with
  | nil =>
    intro kv dv
    cases kv
    cases dv
    exact ⟨_, ReadsAll.nil⟩
  | @cons e kv es kvs hk hv _ ih =>
    intro r dv
    cases r with
    | cons r1 r2 =>
      cases dv with
      | cons d1 d2 =>
        obtain ⟨as, R⟩ := ih r2 d2
        obtain ⟨bs, R1⟩ := Dp.reads I _ _ _ d1.2 r1.2
        refine ⟨_, ReadsAll.cons (as := bs) ?_ R⟩
        show Reads s.heap e.val _ bs
        rw [hv]; exact R1
/-- a value is shown under a list -/
theorem dq_shown (I : Inv X pins σ H s) {v : V} {d : PyData} {u : Value} (h : Dq X.K H v d) (r : RelV v u) (sh : d.showable = true) (z : d.shown.length ≤ sizeLine) :
    ∃ as bs, Reads s.heap u d as ∧ ReadAtMost s.heap d.depth bs ∧ ReprK X.prog X.w bs s.heap d.depth u d.shown := by
  cases h with
  | dat h =>
    obtain ⟨as, R⟩ := Dp.reads I d v u h r
    obtain ⟨bs, b1, b2⟩ := ReprK.of_reads (prog := X.prog) (w := X.w) R sh (PyData.noDict_hsm (noDict _ _ _ _ h)) z
    exact ⟨as, bs, R, b1, b2⟩
  | @dic a ks da ha dv =>
    cases r
    obtain ⟨_, ya, va, ra, o, es, n, h1, ex, h3, _, pr, _⟩ := (show ObjOk X.prog X.w H s.heap a (.dK ks) from I.hok a _ ha)
    have h2 := ex.1
    obtain ⟨as, r1⟩ := reads_keys (h := s.heap) pr ra dv
    obtain ⟨bs, r2⟩ := reads_vals I pr ra dv
    have R : Reads s.heap (.ref a) (.dict (kvD da)) _ := .dict h1 h2 h3 r1 r2
    have zz : (dictText (PyData.shownKv (kvD da))).length ≤ sizeLine := by simpa only [PyData.shown] using z
    obtain ⟨sk, sv⟩ := PyData.showableKv_split (kvD da) (by simpa only [PyData.showable] using sh)
    obtain ⟨c1, m1, k1⟩ := ReprAllK.of_readsAll (prog := X.prog) (w := X.w) r1 sk (fun q => by rw [noD_keys] at q; cases q) fun t ht => by
      obtain ⟨p, hp, hl⟩ := PyData.shownKv_key_le _ t ht
      exact Nat.le_trans hl (Nat.le_trans (dictText_mem_le hp) zz)
    obtain ⟨c2, m2, k2⟩ := ReprAllK.of_readsAll (prog := X.prog) (w := X.w) r2 sv (fun q => by rw [noD_all dv] at q; cases q) fun t ht => by
      obtain ⟨p, hp, hl⟩ := PyData.shownKv_val_le _ t ht
      exact Nat.le_trans hl (Nat.le_trans (dictText_mem_le hp) zz)
    have m : ReadAtMost s.heap (PyData.depthKv (kvD da)) (c1 ++ c2) := ReadAtMost.append (m1.mono (PyData.depthAll_keys_le _)) (m2.mono (PyData.depthAll_vals_le _))
    have na : a ∉ c1 ++ c2 := not_mem_of_deeper R (by simp only [PyData.depth]; omega) m
    refine ⟨_, a :: (c1 ++ c2), R, ReadAtMost.cons R (by simp only [PyData.depth]; omega) m, ?_⟩
    simp only [PyData.depth, PyData.shown, PyData.shownKv_eq]
    exact ReprK.dict h1 h2 h3 ya na (ReprEntriesK.of_two es.toList _ _ (k1.more_le (fun _ q => List.mem_append_left _ q) (PyData.depthAll_keys_le _)) (k2.more_le (fun _ q => List.mem_append_right _ q) (PyData.depthAll_vals_le _)))
theorem dqs_shown (I : Inv X pins σ H s) : ∀ {vs : List V} {ds : List PyData} {us : List Value}, DqAll X.K H vs ds → Vals vs us → PyData.showableAll ds = true → (∀ t ∈ PyData.shownAll ds, t.length ≤ sizeLine) →
    ∃ as bs, ReadsAll s.heap us ds as ∧ ReadAtMost s.heap (PyData.depthAll ds) bs ∧ ReprAllK X.prog X.w bs s.heap (PyData.depthAll ds) us (PyData.shownAll ds) := by
  intro vs ds us h
  induction h generalizing us with
  | nil =>
    intro r _ _
    cases r
    exact ⟨_, [], ReadsAll.nil, (fun _ q => nomatch q), .nil⟩
  | @cons v vs d ds h1 _ ih =>
    intro r sh z
    cases r with
    | cons r1 r2 =>
      obtain ⟨s1, s2⟩ : d.showable = true ∧ PyData.showableAll ds = true := by simpa [PyData.showableAll] using sh
      obtain ⟨as, bs, R, m, k⟩ := dq_shown I h1 r1 s1 (z _ (by simp only [PyData.shownAll]; exact List.mem_cons_self ..))
      obtain ⟨as2, bs2, R2, m2, k2⟩ := ih r2 s2 fun t ht => z t (by simp only [PyData.shownAll]; exact List.mem_cons_of_mem _ ht)
      refine ⟨_, bs ++ bs2, ReadsAll.cons R R2, ?_, ?_⟩
      · simp only [PyData.depthAll]
        exact ReadAtMost.append (m.mono (Nat.le_max_left _ _)) (m2.mono (Nat.le_max_right _ _))
      · simp only [PyData.depthAll, PyData.shownAll]
        exact .cons ((k.more fun _ q => List.mem_append_left _ q).level_le (Nat.le_max_left _ _)) (k2.more_le (fun _ q => List.mem_append_right _ q) (Nat.le_max_right _ _))
end
theorem call_rpL {X : Cx} (g : X.A.guards = some []) (hu : X.A.units + 64 < cLine) : CallR X (.builtin "repr") (rRpL X.K) := by
  intro pins s σ H xs us Q I r h
  obtain ⟨a, vs, ds, rfl, sq, dq, sh, dp, z, q⟩ := h
  obtain ⟨u, rfl, ru⟩ := vals1 r
  cases ru
  obtain ⟨its, rv, ⟨o, n, ho, hc, _, hd⟩, _⟩ := I.list sq
  have zz : (listText (PyData.shownAll ds)).length ≤ sizeLine := by simpa only [PyData.shown] using z
  obtain ⟨as, bs, R, m, k⟩ := dqs_shown I dq rv sh fun t ht => Nat.le_trans (listText_mem_le ht) zz
  have RL : Reads s.heap (.ref a) (.list ds) _ := .list ho hc hd R
  have na : a ∉ bs := not_mem_of_deeper RL (by simp only [PyData.depth]; omega) m
  refine call_repr_slot (by omega) ⟨o, ho, hc⟩ F.slot_list_repr.toG ?_
  simp only [PyData.shown] at q
  cases its with
  | nil =>
    cases R
    simp only [PyData.shownAll, listText_nil] at q
    exact call_list_repr_empty ⟨o, ho, hc⟩ ho hd ⟨_, _, rfl, .str _, H, I.tok _, ⟨_, rfl⟩, q⟩
  | cons y l =>
    exact call_list_reprK ho hc hd na (by simpa using k.length_eq) (fun i y e => k.item i y (by simpa using e)) g (fun b _ => Clear.nil b) (by show X.A.units + 1 + (PyData.depthAll ds + 1) < cLine; omega) (fun _ _ e => e) (fun h' u tk hk => ⟨_, _, rfl, .str _, H, I.kept hk, ⟨_, rfl⟩, q⟩) zz
theorem dp_keep {K : PySem.W.Frag} {H H' : Hp} (s : ∀ q o, H q = some o → H' q = some o) {v : V} {d : PyData} (h : Dp K H v d) : Dp K H' v d := by
  have sl : ∀ {a : Addr} {xs : List V}, SqL K H a xs → SqL K H' a xs := fun h => by
    rcases h with (h | ⟨o, h⟩) | h
    · exact .inl (.inl (s _ _ h))
    · exact .inl (.inr ⟨o, s _ _ h⟩)
    · exact .inr h
  have st : ∀ {a : Addr} {xs : List V}, SqT K H a xs → SqT K H' a xs := fun h => by
    rcases h with (h | ⟨o, h⟩) | h
    · exact .inl (.inl (s _ _ h))
    · exact .inl (.inr ⟨o, s _ _ h⟩)
    · exact .inr h
  refine Dp.rec (motive_1 := fun v d _ => Dp K H' v d) (motive_2 := fun vs ds _ => DpAll K H' vs ds) ?_ ?_ ?_ ?_ ?_ ?_ ?_ ?_ h
  · exact .non
  · exact fun b => .bl b
  · exact fun i => .int i
  · exact fun x => .str x
  · exact fun h _ ih => .lst (sl h) ih
  · exact fun h _ ih => .tup (st h) ih
  · exact .nil
  · exact fun _ _ h1 h2 => .cons h1 h2
/-- list(x) and tuple(x), named -/
def rListOf (K : PySem.W.Frag) : List V → Hp → VK → Prop := fun xs H Q => ∃ p ys, xs = [.ref p] ∧ (SqL K H p ys ∨ SqT K H p ys) ∧ ∀ l, H l = none → Q (.ref l) (upd H l (.lst ys))
theorem cr_listOf {X : Cx} : CallR X (.type "list") (rListOf X.K) := call_list_of
def rTupOf (K : PySem.W.Frag) : List V → Hp → VK → Prop := fun xs H Q => ∃ p ys, xs = [.ref p] ∧ ((SqL K H p ys ∧ ∀ l, H l = none → Q (.ref l) (upd H l (.tup ys))) ∨ (SqT K H p ys ∧ Q (.ref p) H))
theorem cr_tupOf {X : Cx} : CallR X (.type "tuple") (rTupOf X.K) := call_tuple_of
theorem pe_revLK {X : Cx} {K : PySem.W.Frag} {e : Expr} {te : TE} {k : Nat} {p1 p2 p3 pos : Pos} (hK : X.K = K) (he : PE X e te) : PE X (.Subscript e (.Slice none none (some (.UnaryOp .USub (.Constant (.int 1) k p1) p2)) p3) pos) (tRevL K te) := hK ▸ pe_revL he
end Jg

/-! how long data is shown -/
namespace Jg
open PySem PySem.Spec PyProof.Rows L2
/-- d weighs at most n and is at most k deep -/
structure Sb (d : PyData) (n k : Nat) : Prop where
  sh : d.showable = true
  lv : d.leavesShort 100 = true
  bk : d.bulk ≤ n
  dp : d.depth ≤ k
structure SbAll (ds : List PyData) (n k : Nat) : Prop where
  sh : PyData.showableAll ds = true
  lv : PyData.leavesShortAll 100 ds = true
  bk : PyData.bulkAll ds ≤ n
  dp : PyData.depthAll ds ≤ k
theorem Sb.str {z : Str} {n : Nat} (h : z.length ≤ n) (c : ∀ x ∈ z.cps.toList, x < 16 ^ 8) : Sb (.str z) n 0 :=
  ⟨by simp [PyData.showable], by simpa only [PyData.leavesShort, List.all_eq_true, decide_eq_true_eq] using c, h, by simp [PyData.depth]⟩
theorem Sb.int {i : Int} (h : i.natAbs < 10 ^ 9) : Sb (.int i) 0 0 := by
  have z := int_text_length_le10 (k := 9) (by decide) h
  have e : (PyData.int i).shown.length ≤ 100 := by
    show (Str.ofString (toString i)).length ≤ 100
    rw [PySem.ofString_length]
    omega
  refine ⟨?_, by simpa only [PyData.leavesShort, decide_eq_true_eq] using e, Nat.le_refl _, by simp [PyData.depth]⟩
  have l : i.natAbs.log2 < 1920 := Nat.lt_of_lt_of_le (PySem.Flt.log2_lt_of (k := 64) (by decide) (Nat.lt_of_lt_of_le h (by decide +kernel))) (by decide)
  simp [PyData.showable, l]
theorem Sb.non : Sb .none 0 0 := ⟨rfl, rfl, Nat.le_refl _, by simp [PyData.depth]⟩
theorem Sb.bl (b : Bool) : Sb (.bool b) 0 0 := ⟨rfl, rfl, Nat.le_refl _, by simp [PyData.depth]⟩
theorem Sb.mono {d : PyData} {n m k l : Nat} (h : Sb d n k) (h1 : n ≤ m) (h2 : k ≤ l) : Sb d m l := ⟨h.sh, h.lv, Nat.le_trans h.bk h1, Nat.le_trans h.dp h2⟩
theorem SbAll.mono {ds : List PyData} {n m k l : Nat} (h : SbAll ds n k) (h1 : n ≤ m) (h2 : k ≤ l) : SbAll ds m l := ⟨h.sh, h.lv, Nat.le_trans h.bk h1, Nat.le_trans h.dp h2⟩
theorem SbAll.nil {n k : Nat} : SbAll [] n k := ⟨rfl, rfl, Nat.zero_le _, Nat.zero_le _⟩
theorem SbAll.cons {d : PyData} {ds : List PyData} {n m k : Nat} (h1 : Sb d n k) (h2 : SbAll ds m k) : SbAll (d :: ds) (n + 1 + m) k :=
  ⟨by simp only [PyData.showableAll, h1.sh, h2.sh, Bool.and_true], by simp only [PyData.leavesShortAll, h1.lv, h2.lv, Bool.and_true], by
    have a := h1.bk
    have b := h2.bk
    simp only [PyData.bulkAll]; omega, by
    have a := h1.dp
    have b := h2.dp
    simp only [PyData.depthAll]; omega⟩
theorem SbAll.of {n k : Nat} : ∀ {ds : List PyData}, (∀ d ∈ ds, Sb d n k) → SbAll ds (ds.length * (n + 1)) k
  | [], _ => .nil
  | d :: ds, h => (SbAll.cons (h d (List.mem_cons_self ..)) (SbAll.of fun x hx => h x (List.mem_cons_of_mem _ hx))).mono (by rw [List.length_cons, Nat.add_mul]; omega) (Nat.le_refl _)
theorem SbAll.list {ds : List PyData} {n k : Nat} (h : SbAll ds n k) : Sb (.list ds) n (k + 1) :=
  ⟨by simp only [PyData.showable, h.sh], by simp only [PyData.leavesShort, h.lv], h.bk, by
    have a := h.dp
    simp only [PyData.depth]; omega⟩
theorem SbAll.tuple {ds : List PyData} {n k : Nat} (h : SbAll ds n k) : Sb (.tuple ds) n (k + 1) :=
  ⟨by simp only [PyData.showable, h.sh], by simp only [PyData.leavesShort, h.lv], h.bk, by
    have a := h.dp
    simp only [PyData.depth]; omega⟩
theorem sb_kv {n m k : Nat} : ∀ {kvs : List (PyData × PyData)}, (∀ p ∈ kvs, Sb p.1 n k ∧ Sb p.2 m k) → PyData.showableKv kvs = true ∧ PyData.leavesShortKv 100 kvs = true ∧ PyData.bulkKv kvs ≤ kvs.length * (n + m + 2) ∧ PyData.depthKv kvs ≤ k
  | [], _ => ⟨rfl, rfl, Nat.zero_le _, Nat.zero_le _⟩
  | (a, b) :: r, h => by
    obtain ⟨i1, i2, i3, i4⟩ := sb_kv (kvs := r) fun p hp => h p (List.mem_cons_of_mem _ hp)
    obtain ⟨h1, h2⟩ : Sb a n k ∧ Sb b m k := h (a, b) (List.mem_cons_self ..)
    refine ⟨by simp only [PyData.showableKv, h1.sh, h2.sh, i1, Bool.and_true], by simp only [PyData.leavesShortKv, h1.lv, h2.lv, i2, Bool.and_true], ?_, ?_⟩
    · have x := h1.bk
      have y := h2.bk
      simp only [PyData.bulkKv]
      rw [List.length_cons, Nat.add_mul]; omega
    · have x := h1.dp
      have y := h2.dp
      simp only [PyData.depthKv]; omega
theorem Sb.dict {kvs : List (PyData × PyData)} {n m k : Nat} (h : ∀ p ∈ kvs, Sb p.1 n k ∧ Sb p.2 m k) : Sb (.dict kvs) (kvs.length * (n + m + 2)) (k + 1) := by
  obtain ⟨i1, i2, i3, i4⟩ := sb_kv h
  exact ⟨by simp only [PyData.showable, i1], by simp only [PyData.leavesShort, i2], i3, by simp only [PyData.depth]; omega⟩
theorem Sb.len {d : PyData} {n k : Nat} (h : Sb d n k) (z : n ≤ 160000) : d.shown.length ≤ sizeLine := by
  have e := PyData.shown_le_bulk 100 (by decide) d h.lv
  have b := h.bk
  rw [sizeLine_eq]; omega
/-- as repr asks for it -/
theorem Sb.ask {d : PyData} {n k : Nat} (h : Sb d n k) (z : n ≤ 160000) (hk : k ≤ 40) : d.showable = true ∧ d.depth ≤ 40 ∧ d.shown.length ≤ sizeLine := ⟨h.sh, Nat.le_trans h.dp hk, h.len z⟩
end Jg

/-! a dict whose one key is None -/
namespace Jg
open PySem PySem.Spec PyProof.Rows L2
section
variable {P : Program} {w : World} {K : PySem.W.Frag}
def NkP (P : Program) (w : World) (a : Addr) : Heap → Prop := fun h => (a == sysModules) = false ∧ ∃ u, h.DictOf (noneKind P w) a [(none, u)]
abbrev NkO (P : Program) (w : World) (a : Addr) : HO := .ext (NkP P w a)
theorem nk_stay {a : Addr} : ∀ h1 h2 : Heap, NkP P w a h1 → (∀ o, h1.get? a = some o → h2.get? a = some o) → NkP P w a h2 := fun h1 h2 ⟨hs, u, o, es, ep, ho, r⟩ k => ⟨hs, u, o, es, ep, k _ ho, r⟩
theorem dict_ep2 {o : Obj} {es es' : Array DictEntry} {ep ep' : Nat} (h : o.data = .dict es ep) (h' : o.data = .dict es' ep') : es = es' ∧ ep = ep' := by
  rw [h] at h'
  injection h' with a b
  exact ⟨a, b⟩
variable {X : Cx} {pins : List (Addr × Obj)} {σ : L2.St} {H : Hp} {s : Shared} {d : Addr} {o : Obj}
theorem frzN (I : Inv X pins σ H s) (h : H d = some (.frz o (NkO X.prog X.w d))) :
    (d == sysModules) = false ∧ s.heap.get? d = some o ∧ o.ExactDict ∧ ∃ (es : Array DictEntry) (ep : Nat) (u : Value), o.data = .dict es ep ∧ es.size = 1 ∧ s.heap.DictAt (noneKind X.prog X.w) d [(none, u)] ep := by
  obtain ⟨hd, ⟨hs, u, o', es, ep, ho, hx, hdt, r⟩, _⟩ := I.hok d _ h
  rw [hd] at ho
  cases ho
  refine ⟨hs, hd, hx, es, ep, u, hdt, ?_, o, es, hd, hx, hdt, r⟩
  have l1 := r.2.1.length
  rw [Array.length_toList] at l1
  exact l1
def ItN (P : Program) (w : World) (d : Addr) (o : Obj) : It :=
  ⟨fun i H => H d = some (.frz o (NkO P w d)) ∧ i < 1, fun i H x H' => H' = H ∧ x = .non, fun i H => H d = some (.frz o (NkO P w d)) ∧ 1 ≤ i⟩
theorem walk_none : Walk (ItN P w d o) 1 (fun H => H d = some (.frz o (NkO P w d))) (fun i H x H' => H' = H ∧ x = .non) :=
  ⟨fun _ _ hi q => ⟨q, hi⟩, fun _ q => ⟨q, Nat.le_refl _⟩, fun _ _ _ _ _ _ y => y⟩
theorem turn_none {tg : Expr} {es : Array DictEntry} {ep : Nat} (it : Addr) (hod : o.data = .dict es ep) : Turn P w K tg (ItN P w d o) [it] it (fun i h => h.IsKeyIter it d i 1 ep) where
  mem := by simp
  obj := fun i h st b hb => by
    have e : b = it := by simpa using hb
    subst e
    obtain ⟨oi, e, c, dd⟩ := st
    exact ⟨oi, e, fun v z => by rw [dd] at z; cases z⟩
  keep := fun i h h' st k => st.at fun oi e => k it (by simp) oi e
  item := by
    intro X hP hw hK hc i pins s σ H E I hf st hg
    subst hP hw hK
    obtain ⟨hd, hi⟩ := hg
    obtain ⟨f0, f1, f2, f3, f4, f5⟩ := hf it (by simp)
    obtain ⟨hs, hgd, hx, es', ep', u, hdt, hsz, hm⟩ := frzN I hd
    obtain ⟨rfl, rfl⟩ := dict_ep2 hod hdt
    obtain rfl : i = 0 := by omega
    refine wpAny_pyNext_dict_item (kvs := [(none, u)]) (k := none) (v := u) st hm rfl fun key h' hkey st' sb => ?_
    have I1 : Inv X pins σ H { s with heap := h' } := I.turned (t' := s.toks) (fun b ob hb e => (sb.2 b hb).trans e) f0 f1 f3 f4 f5
    obtain ⟨oi, e, c, dd⟩ := id st'
    have ek := nk_none hkey
    subst ek
    exact ⟨.none, rfl, go_of (s := { s with heap := h' }) e c dd (by decide) ⟨.non, H, I1, rfl, ⟨rfl, rfl⟩, st', fun b hb => (hf b hb).1⟩⟩
  done := by
    intro X hP hw hK hc i pins s σ H E I hf st hg
    subst hP hw hK
    obtain ⟨hd, hi⟩ := hg
    obtain ⟨f0, f1, f2, f3, f4, f5⟩ := hf it (by simp)
    obtain ⟨hs, hgd, hx, es', ep', u, hdt, hsz, hm⟩ := frzN I hd
    obtain ⟨rfl, rfl⟩ := dict_ep2 hod hdt
    exact next_key_end (I.ok.hd hc) st hgd hdt hsz hi fun h' eb => ⟨rfl, I.turned (t' := s.toks) (fun b ob hb e => eb b ob hb e) f0 f1 f3 f4 f5⟩
  self := fun A i s Q E st h => wpAny_pyIter_keyiter st h
end
/-- for x in d: d as everywhere, or of the one key None -/
def iKeysE (P : Program) (w : World) (td : TE) : TI := fun σ H R => td σ H fun x H1 => ∃ d o, x = .ref d ∧ ((∃ kvs, H1 d = some (.frz o (.dK kvs)) ∧ R (Itk d o kvs) H1) ∨ (H1 d = some (.frz o (NkO P w d)) ∧ R (ItN P w d o) H1))
section
variable {X : Cx} {tg e : Expr} {td : TE} {pos : Pos}
theorem pi_keysE (he : PE X e td) : PI X tg e (iKeysE X.prog X.w td) := by
  refine ⟨fun pins s σ H R I h => ?_⟩
  refine thn (he.run pins s σ H _ I h) fun u s1 ⟨x, H1, I1, rx, d, o, ex, q⟩ => ?_
  subst ex
  obtain rfl : u = Value.ref d := rx
  rcases q with ⟨kvs, hd, q⟩ | ⟨hd, q⟩
  · obtain ⟨hs, hgd, hx, es, ep, vs, hdt, hsz, kv, hm⟩ := I1.frzK hd
    refine iter_keys hs hgd hx hdt (pi_one (tk := s1.toks) I1 _ (turn_keys _ hdt) ⟨_, Heap.get?_push_size _ rfl, rfl, ?_⟩ q)
    rw [hsz] <;> rfl
  · obtain ⟨hs, hgd, hx, es, ep, u, hdt, hsz, hm⟩ := frzN I1 hd
    refine iter_keys hs hgd hx hdt (pi_one (tk := s1.toks) I1 _ (turn_none _ hdt) ⟨_, Heap.get?_push_size _ rfl, rfl, ?_⟩ q)
    rw [hsz] <;> rfl
/-- {None: e} -/
def tDispN (P : Program) (w : World) (te : TE) : TE := fun σ H Q => ∀ p, H p = none → tPairs [(tC .non, te)] σ (upd H p (.dK [])) fun ps H2 => (∃ y, ps = [(V.non, y)]) ∧ H2 p = some (.dK []) ∧ Q (.ref p) (upd H2 p (NkO P w p))
theorem pe_dispN {k v : Expr} {te : TE} (hk : PE X k (tC .non)) (hv : PE X v te) : PE X (.Dict [some k] [v] pos) (tDispN X.prog X.w te) := by
  refine ⟨fun pins s σ H Q I q => ?_⟩
  have hn := I.hok.fresh (Nat.le_refl s.heap.objs.size)
  have I1 := I.laid (a := s.heap.objs.size) (o := .dK []) (h' := s.heap.push { cls := .type "dict", data := .dict #[] }) (t' := s.toks) (fun _ _ q => Heap.get?_push_of_some _ q) (Nat.le_refl _) (dk_empty s.heap I.big)
  have h : PPs X pos [some k] [v] [(tC .non, te)] := pps_cons hk hv pps_nil
  refine wpAny_Dict_walk (knd := noneKind X.prog X.w) rfl rfl (fun z => by cases z) (by show 1 ≤ 15; decide) (thn (h.run pins _ σ _ _ I1 (q _ hn)) fun ws s2 ⟨ps, H2, I2, rel, ⟨y, ep⟩, e, q2⟩ => ?_)
  subst ep
  obtain ⟨kv, rfl, r1, r3⟩ : ∃ kv, ws = [kv] ∧ RelV .non kv.1 ∧ RelV y kv.2 := by
    cases rel with
    | cons r1 r2 => cases r2; exact ⟨_, rfl, r1.1, r1.2⟩
  obtain ⟨ku, vu⟩ := kv
  obtain rfl : ku = Value.none := r1
  obtain ⟨z, hd, vs0, r0, dd⟩ := dk_of I2.hok e
  cases r0
  have dd0 : s2.heap.DictOf (noneKind X.prog X.w) s.heap.objs.size [] := by
    obtain ⟨o, es, ep, ho, hx, hdt, hk, hp, hn⟩ := dd
    have e0 : es = #[] := by
      have := hp.length
      simpa using this
    subst e0
    exact ⟨o, #[], ep, ho, hx, hdt, (fun e he => by simp at he), .nil, List.nodup_nil⟩
  refine ⟨[(none, vu)], ⟨rfl, rfl, trivial⟩, dd0, fun h' dd' hs => ⟨.ref s.heap.objs.size, _, ?_, rfl, q2⟩⟩
  have he : ∃ q, h'.get? s.heap.objs.size = some q := let ⟨q, _, _, hq, _⟩ := dd'; ⟨q, hq⟩
  exact d_write I2 (by rw [e]; exact True.intro) hs he ⟨⟨hd, vu, dd'⟩, he, nk_stay⟩
def rIsiE (P : Program) (w : World) (K : PySem.W.Frag) : List V → Hp → VK → Prop := fun xs H Q => rIsi K xs H Q ∨ ∃ a, xs = [.ref a, .ty "dict"] ∧ H a = some (NkO P w a) ∧ Q (.bl true) H
theorem call_isiE : CallR X (.builtin "isinstance") (rIsiE X.prog X.w X.K) := by
  intro pins s σ H xs us Q I r h
  rcases h with h | ⟨a, rfl, ha, q⟩
  · exact call_isi pins s σ H xs us Q I r h
  · obtain ⟨u1, u2, rfl, r1, r2⟩ := vals2 r
    cases (show u1 = Value.ref a from r1)
    cases (show u2 = Value.type "dict" from r2)
    obtain ⟨⟨hs, u, o, es, ep, ho, hx, _⟩, _⟩ := I.hok a _ ha
    exact PySem.W.kia_one PySem.W.kitx_dict I.kIn ⟨o, ho, hx.1⟩ (kit_ty (by decide +kernel)) (fun z => nomatch z) fun tk => ⟨.bl true, H, I.tok tk, rfl, q⟩
def rLenE (P : Program) (w : World) : List V → Hp → VK → Prop := fun xs H Q => (∃ a kvs, xs = [V.ref a] ∧ H a = some (.dK kvs) ∧ Q (.int kvs.length) H) ∨ ∃ a, xs = [.ref a] ∧ H a = some (NkO P w a) ∧ Q (.int 1) H
theorem call_lenE : CallR X (.builtin "len") (rLenE X.prog X.w) := by
  intro pins s σ H xs us Q I r h
  rcases h with h | ⟨a, rfl, ha, q⟩
  · exact call_lenD pins s σ H xs us Q I r h
  · obtain ⟨u, rfl, ru⟩ := vals1 r
    cases ru
    obtain ⟨⟨hs, u, dd⟩, _⟩ := I.hok a _ ha
    exact call_len_dict hs dd (by show ((1 : Nat) : Int) < 2 ^ 63; decide) ⟨.int 1, H, I.tok _, ⟨_, rfl⟩, q⟩
end
end Jg

/-! methods with keyword-only parameters, that may raise -/
namespace Jg
open PySem PySem.Spec PyProof.Rows L2
/-- a method with keyword-only parameters, as the top leaves it -/
structure MthK (K : PySem.W.Frag) (C : Addr) (m : Str) (qual : Str) (st : Stmt) (kws : List (Str × V)) : Prop where
  ex : ∃ f fd, FunD K m qual (defArgs st) (defBody st) (defScope st) [] kws f fd ∧ PySem.W.findIn K (.ref C) m = some (some (.ref f)) ∧ PySem.W.isFn K (.ref f) = true
theorem MthK.of {K : PySem.W.Frag} {C : Addr} {m qual : Str} {st : Stmt} {f : Addr} {oc : Value} {od an : Option Addr} {osl : Array (Option Value)} {kV doc pm cdv ct : Value} {kws : List (Str × V)}
    (a : PySem.W.findIn K (.ref C) m = some (some (.ref f))) (i : PySem.W.isFn K (.ref f) = true) (l : K.lookup f = some ⟨oc, od, .func (PySem.W.fnOf m qual (defArgs st) (defBody st) (defScope st) .none kV doc pm an cdv ct), osl⟩)
    (c : PySem.W.codeIn K cdv qual = true) (k : PySem.W.keepIn K (.ref f) = true) (kw : KwdV K kV kws) : MthK K C m qual st kws := ⟨f, _, ⟨⟨oc, od, .none, kV, doc, pm, an, cdv, ct, osl, rfl, l, c, .inl ⟨rfl, rfl⟩, kw⟩, k⟩, a, i⟩
structure MetW (P : Program) (w : World) (K : PySem.W.Frag) (mg : Str → Option Value) (base : Heap) (CX : CXT) (k : Nat) (C : Addr) (m : Str) (n : Nat) (ks : List Str) (gV : List V → List V → List V) (sp : Sp) : Prop where
  ex : ∃ f fd ps g, FnOk P w K mg base CX k f fd ps sp ∧ PySem.W.findIn K (.ref C) m = some (some (.ref f)) ∧ PySem.W.isFn K (.ref f) = true ∧ PySem.W.keepIn K (.ref f) = true ∧ KBn K fd ps n ks g gV
def tMethK (C : Addr) (m : Str) (n l : Nat) (sp : Sp) (gV : List V → List V → List V) (E : L2.St → XK) (ta : TE) (t tk : TA) : TE := fun σ H Q => ta σ H fun x H1 => ∃ a dx fs, x = .ref a ∧ H1 a = some (.ins C dx fs) ∧ fs.lookup m = none ∧
  t σ H1 fun vs H2 => tk σ H2 fun zs H3 => vs.length + 1 = n ∧ zs.length = l ∧ sp (gV (.ref a :: vs) zs) H3 Q (E σ)
section
variable {X : Cx} {k j n : Nat} {C : Addr} {x m : Str} {ks : List Str} {gV : List V → List V → List V} {sp : Sp} {W : WX} {p pos apos : Pos} {e o : Expr} {es : List Expr} {kws : List Keyword} {ta : TE} {t tk : TA}
/-- o.m(e, .., k = v, ..) -/
theorem pe_mKS {pl : Sem Bool} (c : MetW X.prog X.w X.K X.mg X.base (L2.CX X.prog X.w) k C m n ks gV sp) (cl : Cls X.K C) (tak : Takes X W) (hr : Room j X.A) (hk : k ≤ j) (he : PE X o ta) (ha : PA X (e :: es) t) (hkw : PK X kws tk)
    (hall : (backToKw pos (keywordEach kws X.env)).all (·.1.isSome) = true := by rfl) (hks : (backToKw pos (keywordEach kws X.env)).filterMap (·.1) = ks := by rfl)
    (hst : starEach (e :: es) X.env = (false, eval e X.env) :: starEach es X.env := by rfl) (hpl : ((backTo pos (starEach (e :: es) X.env)).any (·.1) || (backToKw pos (keywordEach kws X.env)).any (·.1.isNone)) = false := by rfl)
    (ht : eval (.Call (.Attribute o m apos) (e :: es) kws pos) X.env = (do
      let ov ← eval o X.env
      standAt apos.atName
      let (f, first) ← holding [ov] (getMethod ov m pl)
      callWith pos f first (backTo pos (starEach (e :: es) X.env)) (backToKw pos (keywordEach kws X.env))) := by rfl) :
    PE X (.Call (.Attribute o m apos) (e :: es) kws pos) (tMethK C m n ks.length sp gV (WE W) ta t tk) := by
  obtain ⟨f, fd, ps, g, F, at_, i, kp, b⟩ := c.ex
  refine ⟨fun pins s σ H Q I h => PySem.W.methodCall_KW (pl := pl) (thn (he.run pins s σ H _ I h) fun u s1 ⟨x, H1, I1, rx, a, dx, fs, ex, ea, l, q⟩ => ?_) ht⟩
  subst ex
  obtain rfl : u = Value.ref a := rx
  refine getmeth_ok I1 ea cl ⟨at_, i, kp⟩ l (PySem.W.callWith_KW (first := [.ref a]) (h₀ := X.base) I.ok.mod.kin kp hall (thn (ha.run pos pins s1 σ H1 _ I1 q) fun us s2 ⟨vs, H2, I2, r, q2⟩ => ?_) hpl hst)
  refine thn (hkw.run pos pins s2 σ H2 _ I2 q2) fun ws s3 ⟨zs, H3, I3, rz, l1, l2, q3⟩ => ⟨I3.kIn, ?_⟩
  rw [hks]
  have r1 : Vals (.ref a :: vs) (.ref a :: us) := .cons rfl r
  have r2 := b.rel r1 rz
  have n1 : (Value.ref a :: us).length = n := by rw [List.length_cons, ← r.length]; exact l1
  have n2 : ws.length = ks.length := rz.length.symm.trans l2
  show wpAny _ _ (call (.ref f) (Value.ref a :: us) (ks.zip ws)) _ _ _
  refine wpAny_call (codeAny_mono (F.run X.A X.stack s3 H3 ⟨.ref a :: us, ks.zip ws⟩ _ _ Q (WE W σ) (hr.mono hk) I3.env0 (b.to s3 _ ws I3.kIn n1 n2) r2 q3) fun r s' hq => ?_)
  match r, hq with
  | .error err, z => exact passAt tak σ pins _ _ err s' I3 z
  | .ok (.ret u), z => exact I3.after z
end
section
variable {P : Program} {w : World} {K : PySem.W.Frag} {mg : Str → Option Value} {base : Heap} {k : Nat} {C : Addr} {m qual : Str} {st : Stmt} {N ps ks : List Str} {kws : List (Str × V)} {sp : Sp}
theorem MthK.met (D : MthK K C m qual st kws) (S : FnScope N ps (defScope st)) (len : ∀ vs H Q E, sp vs H Q E → vs.length = ps.length) (n : Nat)
    (ms : List (Str × V)) (g : {α : Type} → List α → List α → List α → List α) (hk : kws ≠ []) (hms : ∀ q ∈ ms, q ∈ kws) (hrel : ∀ {vs mz zs : List V} {us mv ws : List Value}, Vals vs us → Vals mz mv → Vals zs ws → Vals (g vs mz zs) (g us mv ws))
    (hb : ∀ (D : Addr) (doc pm : Value) (an : Option Addr) (cdv ct : Value) (us mv ws : List Value), us.length = n → mv.length = ms.length → ws.length = ks.length →
      KwChain D ((ms.map (·.1)).zip mv) (bindArgs (PySem.W.fnOf m qual (defArgs st) (defBody st) (defScope st) .none (.ref D) doc pm an cdv ct) ⟨us, ks.zip ws⟩) (ps.zip (g us mv ws)))
    (body : ∀ f, BodyX P w K mg base N qual st f k sp) : MetW P w K mg base (L2.CX P w) (k + 1) C m n ks (fun vs zs => g vs (ms.map (·.2)) zs) sp :=
  let ⟨f, fd, F, a, i⟩ := D.ex
  let ⟨mv, b⟩ := F.kbinds0 n ks ms g hk hms hrel hb
  ⟨f, fd, ps, _, F.ok S len (body f), a, i, F.kp, b⟩
end
end Jg

namespace K08
open PySem PySem.Spec PyProof.Rows L2 Jg
local macro_rules | `(tactic| walk_at "rd1") => `(tactic| (first
  | refine ⟨_, rfl, ?_⟩
  | refine ⟨_, _, rfl, rfl, ?_⟩
  | refine ⟨_, _, rfl, ?_⟩
  | refine ⟨rfl, ?_⟩
  | (refine ⟨show (0 : Int) < _ by omega, ?_⟩)
  | (refine ⟨Or.inl ⟨by omega, by omega⟩, ?_⟩)
  | (refine ⟨Or.inr ⟨by omega, by omega⟩, ?_⟩)
  | (refine ⟨(⟨by decide, by decide, by decide⟩ : CPow _ _), ?_⟩)
  | refine Or.inl ⟨_, rfl, ?_⟩
  | refine Or.inr ⟨_, rfl, ?_⟩
  | fail "rd"))
local macro_rules | `(tactic| walk_at "rd") => `(tactic| repeat' walk_at "rd1")


def top (i : Nat) : Stmt := PySem.Challenge.pw_gaplesskeys_k08_contents_taken_and_chang.main.body.getD i (.Pass ⟨0, 0, 0, 0⟩)
structure Txt (K : PySem.W.Frag) (mg : Str → Option Value) : Prop where
  b_isinstance : mg "isinstance" = none
  b_int : mg "int" = none
  b_bool : mg "bool" = none
  b_str : mg "str" = none
  b_list : mg "list" = none
  b_tuple : mg "tuple" = none
  b_dict : mg "dict" = none
  b_len : mg "len" = none
  b_all : mg "all" = none
  b_any : mg "any" = none
  b_set : mg "set" = none
  b_sorted : mg "sorted" = none
  b_max : mg "max" = none
  b_min : mg "min" = none
  b_range : mg "range" = none
  b_repr : mg "repr" = none
  b_sum : mg "sum" = none
  g_MOST_ROLES : ∃ u, mg "_MOST_ROLES" = some u ∧ L2.RelV (.int 3) u
  g_MOST_ACCEPTED : ∃ u, mg "_MOST_ACCEPTED" = some u ∧ L2.RelV (.int 8) u
  g_MOST_VOUCHERS : ∃ u, mg "_MOST_VOUCHERS" = some u ∧ L2.RelV (.int 4) u
  g_MOST_NEEDED : ∃ u, mg "_MOST_NEEDED" = some u ∧ L2.RelV (.int 4) u
abbrev kit (K : PySem.W.Frag) (t : Value) (n : String) (b : Bool) : Prop := PySem.W.kitOne K t (.type n) = some b
theorem kii {K : PySem.W.Frag} : kit K (.type "int") "int" true := kit_ty (by decide +kernel)
theorem kib {K : PySem.W.Frag} : kit K (.type "int") "bool" false := kit_ty (by decide +kernel)
def wordB (z : Str) : Bool := decide (z.length ≤ 8) && (PySem.Txt.isascii z && (PySem.Txt.isalpha z && PySem.Txt.islower z))
def spIsInt (K : PySem.W.Frag) : Sp := fun vs H Q _ => ∃ x t b1 b2, vs = [x] ∧ TyX K H x t ∧ kit K t "int" b1 ∧ (b1 = true → kit K t "bool" b2) ∧ Q (.bl (b1 && !b2)) H
def spWord (K : PySem.W.Frag) : Sp := fun vs H Q _ => ∃ y, vs = [y] ∧ ((∃ z, y = .str z ∧ z.length ≤ sizeLine ∧ Q (.bl (wordB z)) H) ∨ (∃ t, TyX K H y t ∧ kit K t "str" false ∧ Q (.bl false) H))
/-! ### keys -/
def flagV (x : V) : Bool := match x with | .str z => wordB z | _ => false
def txV (x : V) : Str := match x with | .str z => z | _ => Str.empty
/-- what may stand in a list that is asked for keys -/
def ItOk (K : PySem.W.Frag) (H : Hp) (x : V) : Prop := (∃ z, x = .str z ∧ z.length ≤ sizeLine) ∨ (∃ t, (∀ H', Same H H' → TyX K H' x t) ∧ kit K t "str" false ∧ ∀ z, x ≠ .str z)
theorem ItOk.keep {K : PySem.W.Frag} {H H' : Hp} {x : V} (h : ItOk K H x) (s : Same H H') : ItOk K H' x := h.elim .inl fun ⟨t, ty, k⟩ => .inr ⟨t, fun H2 s2 => ty H2 (s.trans s2), k⟩
theorem yes_if {σ : L2.St} {H : Hp} {A B : Hp → Prop} (h : A H) : tYes σ H (fun b H3 => if b = true then A H3 else B H3) := by
  show (if true = true then A H else B H)
  rw [if_pos rfl]
  exact h
theorem same_new {H : Hp} {p : Addr} {o : HO} (h : H p = none) : Same H (upd H p o) := fun b u e => by rw [upd_ne (ne_of_none e h)]; exact e
theorem same_new' {H H1 : Hp} {p : Addr} {o : HO} (s : Same H H1) (h : H1 p = none) : Same H (upd H1 p o) := s.trans (same_new h)
theorem same_tup {K : PySem.W.Frag} {H H' : Hp} {a : Addr} {xs : List V} (e : Same H H') (h : SqT K H a xs) : SqT K H' a xs := by
  rcases h with (h | ⟨o, h⟩) | h
  · exact .inl (.inl (e _ _ h))
  · exact .inl (.inr ⟨o, e _ _ h⟩)
  · exact .inr h
theorem SqE.keep {K : PySem.W.Frag} {b : Bool} {H H' : Hp} {a : Addr} {xs : List V} (h : SqE K b H a xs) (s : Same H H') : SqE K b H' a xs := by
  cases b with
  | true => exact s.seq h
  | false => exact same_tup s h
theorem kAny_seq {K : PySem.W.Frag} (b : Bool) : PySem.W.kitAny K (.type (if b then "list" else "tuple")) [.type "list", .type "tuple"] = some true := by
  cases b with
  | true =>
    show (match PySem.W.kitOne K (.type "list") (.type "list") with | some true => some true | some false => PySem.W.kitAny K (.type "list") [.type "tuple"] | none => none) = _
    rw [show PySem.W.kitOne K (.type "list") (.type "list") = some true from kit_ty (by decide +kernel)]
  | false =>
    show (match PySem.W.kitOne K (.type "tuple") (.type "list") with | some true => some true | some false => PySem.W.kitAny K (.type "tuple") [.type "tuple"] | none => none) = _
    rw [show PySem.W.kitOne K (.type "tuple") (.type "list") = some false from kit_ty (by decide +kernel)]
    show (match PySem.W.kitOne K (.type "tuple") (.type "tuple") with | some true => some true | some false => some false | none => none) = _
    rw [show PySem.W.kitOne K (.type "tuple") (.type "tuple") = some true from kit_ty (by decide +kernel)]
theorem kAny_no {K : PySem.W.Frag} {t : Value} (k1 : kit K t "list" false) (k2 : kit K t "tuple" false) : PySem.W.kitAny K t [.type "list", .type "tuple"] = some false := by
  show (match PySem.W.kitOne K t (.type "list") with | some true => some true | some false => PySem.W.kitAny K t [.type "tuple"] | none => none) = _
  rw [show PySem.W.kitOne K t (.type "list") = some false from k1]
  show (match PySem.W.kitOne K t (.type "tuple") with | some true => some true | some false => some false | none => none) = _
  rw [show PySem.W.kitOne K t (.type "tuple") = some false from k2]
def keysB (xs : List V) (most : Int) : Bool := !decide (most < (xs.length : Int)) && (xs.all flagV && decide ((onceW (xs.map txV)).length = xs.length))
def spKeys (K : PySem.W.Frag) : Sp := fun vs H Q _ => ∃ y most, vs = [y, .int most] ∧
  ((∃ a b xs, y = .ref a ∧ SqE K b H a xs ∧ (∀ H', Same H H' → TyX K H' y (.type (if b then "list" else "tuple"))) ∧ xs.length ≤ 500 ∧ (∀ x ∈ xs, ItOk K H x) ∧ ∀ H', Same H H' → Q (.bl (keysB xs most)) H') ∨ (∃ t, (∀ H', Same H H' → TyX K H' y t) ∧ kit K t "list" false ∧ kit K t "tuple" false ∧ ∀ H', Same H H' → Q (.bl false) H'))
def spOrder (K : PySem.W.Frag) : Sp := fun vs H Q _ => ∃ a b ks, vs = [.ref a] ∧ SqE K b H a (ks.map V.str) ∧ ks.length ≤ 60 ∧ ∀ (ys : List Str) p H', ys.Perm (onceW ks) → sortedS ys = true → H p = none → Same H H' → H' p = some (.lst (ys.map V.str)) → Q (.ref p) H'
section
variable {P : Program} {w : World} {K : PySem.W.Frag} {mg : Str → Option Value} {base : Heap}
abbrev s_is_integer : Stmt := top 7
theorem sc_is_integer : FnScope ["value"] ["value"] (defScope s_is_integer) := ⟨rfl, rfl, rfl, by decide +kernel, rfl, by decide +kernel, by decide +kernel⟩
theorem ok_is_integer (D : DefK K mg "is_integer" s_is_integer) (T : Txt K mg) : Cal P w K mg base CX0 1 "is_integer" (spIsInt K) := by
  refine D.cal sc_is_integer (fun _ _ _ _ _ _ us hl => match us, hl with | [_], _ => rfl) (fun vs H Q E h => ?_) fun f cdv A outer s H vs Q E hr h => ?_
  · obtain ⟨x, t, b1, b2, rfl, _⟩ := h; rfl
  · obtain ⟨x, t, b1, b2, rfl, ty, k1, k2, q⟩ := h
    refine ⟨_, (pss_one (ps_ret (pe_and (pe_callB call_isi (by rfl) T.b_isinstance (by decide +kernel) (pa_cons (pv 0) (pa_cons (pe_ty (n := "int") (by rfl) T.b_int (by decide +kernel)) pa_nil))) (pe_one (pe_not (pe_callB call_isi (by rfl) T.b_isinstance (by decide +kernel) (pa_cons (pv 0) (pa_cons (pe_ty (n := "bool") (by rfl) T.b_bool (by decide +kernel)) pa_nil)))))))), ?_⟩
    refine ⟨_, rfl, x, .ty "int", t, _, b1, rfl, .ty "int", ty, k1, b1, rfl, ?_⟩
    cases b1 with
    | false => exact iteF q
    | true => exact iteT ⟨_, rfl, x, .ty "bool", t, _, b2, rfl, .ty "bool", ty, k2 rfl, b2, rfl, q⟩
abbrev s_is_word : Stmt := top 8
theorem sc_is_word : FnScope ["value"] ["value"] (defScope s_is_word) := ⟨rfl, rfl, rfl, by decide +kernel, rfl, by decide +kernel, by decide +kernel⟩
theorem ok_is_word (D : DefK K mg "is_word" s_is_word) (T : Txt K mg) : Cal P w K mg base CX0 1 "is_word" (spWord K) := by
  refine D.cal sc_is_word (fun _ _ _ _ _ _ us hl => match us, hl with | [_], _ => rfl) (fun vs H Q E h => ?_) fun f cdv A outer s H vs Q E hr h => ?_
  · obtain ⟨y, rfl, _⟩ := h; rfl
  · obtain ⟨y, rfl, h⟩ := h
    refine ⟨_, (pss_cons (ps_if (PW.pt (pw_or (pt_not (pt_val (pe_callB call_isi (by rfl) T.b_isinstance (by decide +kernel) (pa_cons (pv 0) (pa_cons (pe_ty (n := "str") (by rfl) T.b_str (by decide +kernel)) pa_nil))))) (pw_or1 (pt_cmpR op_gt (pe_callB call_len_str (by rfl) T.b_len (by decide +kernel) (pa_cons (pv 0) pa_nil)) pe_int (nomark _))))) (pss_one (ps_ret pe_bl)) pss_nil)
      (pss_one (ps_ret (pe_and (pe_m0 F.slot_str_isascii F.type_str_isascii mt_isascii (pv 0)) (pe_and (pe_m0 F.slot_str_isalpha F.type_str_isalpha mt_isalpha (pv 0)) (pe_one (pe_m0 F.slot_str_islower F.type_str_islower mt_islower (pv 0)))))))), ?_⟩
    rcases h with ⟨z, rfl, hz, q⟩ | ⟨t, ty, k, q⟩
    · refine ⟨_, rfl, .str z, .ty "str", _, _, true, rfl, .ty "str", .base (.str z), kit_ty (by decide +kernel), _, rfl, iteF ?_⟩
      refine ⟨_, rfl, z, rfl, hz, _, _, rfl, rfl, _, rfl, ?_⟩
      unfold wordB at q
      by_cases c : z.length ≤ 8
      · refine iteFe (decide_eq_false (by omega)) ?_
        rw [decide_eq_true c] at q
        refine ⟨_, rfl, ⟨_, rfl⟩, z, rfl, rfl, trivial, _, rfl, ?_⟩
        cases h1 : PySem.Txt.isascii z with
        | false => rw [h1] at q; exact iteF q
        | true =>
          rw [h1] at q
          refine iteT ⟨_, rfl, ⟨_, rfl⟩, z, rfl, rfl, trivial, _, rfl, ?_⟩
          cases h2 : PySem.Txt.isalpha z with
          | false => rw [h2] at q; exact iteF q
          | true =>
            rw [h2] at q
            exact iteT ⟨_, rfl, ⟨_, rfl⟩, z, rfl, rfl, trivial, q⟩
      · refine iteTe (decide_eq_true (by omega)) ?_
        rw [decide_eq_false c] at q
        exact q
    · exact ⟨_, rfl, y, .ty "str", t, _, false, rfl, .ty "str", ty, k, _, rfl, iteT q⟩
abbrev s_in_order : Stmt := top 19
theorem sc_in_order : FnScope ["words"] ["words"] (defScope s_in_order) := ⟨rfl, rfl, rfl, by decide +kernel, rfl, by decide +kernel, by decide +kernel⟩
theorem ok_order (D : DefK K mg "_in_order" s_in_order) (T : Txt K mg) : Cal P w K mg base CX0 1 "_in_order" (spOrder K) := by
  refine D.cal sc_in_order (fun _ _ _ _ _ _ us hl => match us, hl with | [_], _ => rfl) (fun vs H Q E h => ?_) fun f cdv A outer s H vs Q E hr h => ?_
  · obtain ⟨a, b, ks, rfl, _⟩ := h; rfl
  · obtain ⟨a, b, ks, rfl, sq, few, k⟩ := h
    refine ⟨_, (pss_one (ps_ret (pe_callB (cr_sortW rfl) (by rfl) T.b_sorted (by decide +kernel) (pa_cons (pe_callTy (cr_setW2 rfl) (by rfl) T.b_set (by decide +kernel) (pa_cons (pv 0) pa_nil)) pa_nil)))), ?_⟩
    have big : (1000 : Nat) < scanBound := by decide
    have ln := onceW_len ks
    refine ⟨_, rfl, a, ks, rfl, ?_, by omega, fun p np => ⟨p, onceW ks, rfl, upd_same, by omega, fun ys q pm so nq => ?_⟩⟩
    · cases b with
      | true => exact .inl sq
      | false => exact .inr sq
    · have s1 := same_new (o := SetWO P w p (onceW ks)) np
      exact k ys q _ pm so (s1.free nq) (same_new' s1 nq) upd_same
abbrev s_are_different_keys : Stmt := top 10
theorem sc_are_different_keys : FnScope ["value", "most", "key"] ["value", "most"] (defScope s_are_different_keys) := ⟨rfl, rfl, rfl, by decide +kernel, rfl, by decide +kernel, by decide +kernel⟩
theorem ok_keys (D : DefK K mg "are_different_keys" s_are_different_keys) (T : Txt K mg) (G_is_word : Cal P w K mg base CX0 1 "is_word" (spWord K)) : Cal P w K mg base CX0 2 "are_different_keys" (spKeys K) := by
  refine D.cal sc_are_different_keys (fun _ _ _ _ _ _ us hl => match us, hl with | [_, _], _ => rfl) (fun vs H Q E h => ?_) fun f cdv A outer s H vs Q E hr h => ?_
  · obtain ⟨y, most, rfl, _⟩ := h; rfl
  · obtain ⟨y, most, rfl, h⟩ := h
    refine ⟨_, (pss_cons (ps_if (PW.pt (pw_or (pt_not (pt_val (pe_callB call_isiT (by rfl) T.b_isinstance (by decide +kernel) (pa_cons (pv 0) (pa_cons (pe_tup (pa_cons (pe_ty (n := "list") (by rfl) T.b_list (by decide +kernel)) (pa_cons (pe_ty (n := "tuple") (by rfl) T.b_tuple (by decide +kernel)) pa_nil))) pa_nil))))) (pw_or1 (pt_cmpR op_gt (pe_callB call_len (by rfl) T.b_len (by decide +kernel) (pa_cons (pv 0) pa_nil)) (pv 1) (nomark _))))) (pss_one (ps_ret pe_bl)) pss_nil)
      (pss_one (ps_ret (pe_and (pe_callB (cr_all rfl) (by rfl) T.b_all (by decide +kernel) (pa_cons (pe_lc (own := [("key", 2)]) (g := gName 2) (by rfl) sc_are_different_keys.nd (pi_either (pv 0)) (blkOk_by (own := [("key", 2)]) (N := ["value", "most", "key"]) (sc := defScope s_are_different_keys) (by decide +kernel)) (fun _ _ _ _ _ => pg_name (i := 2) sc_are_different_keys.nd rfl (Or.inl rfl)) (fun _ _ _ _ _ => pts_nil) (fun _ _ _ _ _ => (pe_c G_is_word hr (by decide) rfl (pa_cons (pv 2) pa_nil)))) pa_nil)) (pe_one (pe_cmpR op_eq (pe_callB call_lenW (by rfl) T.b_len (by decide +kernel) (pa_cons (pe_callTy (cr_setW2 rfl) (by rfl) T.b_set (by decide +kernel) (pa_cons (pv 0) pa_nil)) pa_nil)) (pe_callB call_len (by rfl) T.b_len (by decide +kernel) (pa_cons (pv 0) pa_nil)) (nomark _))))))), ?_⟩
    rcases h with ⟨a, b, xs, rfl, sq, ty, few, its, k⟩ | ⟨t, ty, k1, k2, k⟩
    · refine ⟨_, rfl, by show 2 ≤ sizeLine; decide, fun tp ntp => ?_⟩
      have s1 := same_new (o := .tup [.ty "list", .ty "tuple"]) ntp
      have sq1 : SqE K b _ a xs := SqE.keep (b := b) sq s1
      refine ⟨.ref a, tp, [.ty "list", .ty "tuple"], _, [.type "list", .type "tuple"], true, rfl, upd_same, .cons (.ty _) (.cons (.ty _) .nil), ty _ s1, kAny_seq b, true, rfl, iteF ?_⟩
      generalize upd H tp (.tup [.ty "list", .ty "tuple"]) = H1 at *
      have lv : LenV K (.ref a) H1 xs.length := by
        cases b with
        | true => exact .inl ⟨xs, sq1, rfl⟩
        | false => exact .inr ⟨xs, sq1, rfl⟩
      refine ⟨_, rfl, .ref a, _, rfl, lv, _, rfl, _, _, rfl, rfl, _, rfl, ?_⟩
      unfold keysB at k
      by_cases c : most < (xs.length : Int)
      · rw [decide_eq_true c] at k ⊢
        exact iteT (k _ s1)
      · rw [decide_eq_false c] at k ⊢
        refine iteF ⟨_, rfl, a, b, xs, rfl, sq1, fun D nD => lc_either (K := K) (b := b) (a := a) (xs := xs) (fun i H' => Same H1 H' ∧ H' D = some (.lst ((xs.take i).map fun x => V.bl (flagV x)))) ⟨same_new nD, upd_same⟩ (fun _ H' _ z => SqE.keep (b := b) sq1 z.1) ?_ ?_⟩
        · intro i x H' hx ⟨s2, eD⟩
          have tk : xs.take (i + 1) = xs.take i ++ [x] := by rw [List.take_succ, hx]; rfl
          have nDH : H D = none := s1.free nD
          have up : Same H1 (upd H' D (.lst (((xs.take i).map fun x => V.bl (flagV x)) ++ [V.bl (flagV x)]))) := fun c o e => by rw [upd_ne (ne_of_none e nD)]; exact s2 c o e
          have eq : upd H' D (.lst (((xs.take i).map fun x => V.bl (flagV x)) ++ [V.bl (flagV x)])) D = some (.lst ((xs.take (i + 1)).map fun x => V.bl (flagV x))) := by rw [upd_same, tk, List.map_append]; rfl
          have sz : ((xs.take i).map fun x => V.bl (flagV x)).length < sizeLine := by
            rw [List.length_map, List.length_take, sizeLine_eq]; omega
          refine ⟨rfl, yes_if ⟨_, rfl, x, rfl, ?_⟩⟩
          rcases (its x (List.mem_of_getElem? hx)).keep (s1.trans s2) with ⟨z, rfl, hz⟩ | ⟨t, ty2, k2, nz⟩
          · exact .inl ⟨z, rfl, hz, _, eD, sz, up, eq⟩
          · have fl : flagV x = false := by
              cases x with
              | str z => exact absurd rfl (nz z)
              | _ => rfl
            rw [fl] at up eq
            exact .inr ⟨t, ty2 _ (Same.refl _), k2, _, eD, sz, up, eq⟩
        · rintro H' ⟨s2, eD⟩
          rw [List.take_length] at eD
          have mm : (xs.map flagV).map V.bl = xs.map fun x => V.bl (flagV x) := by rw [List.map_map]; rfl
          refine ⟨D, xs.map flagV, rfl, SqL.of (by rw [mm]; exact eD), _, rfl, ?_⟩
          have al : (xs.map flagV).all id = xs.all flagV := by rw [List.all_map]; rfl
          rw [al]
          cases c2 : xs.all flagV with
          | false =>
            rw [c2] at k
            exact iteF (k _ (s1.trans s2))
          | true =>
            rw [c2] at k
            have ex : (xs.map txV).map V.str = xs := by
              rw [List.map_map]
              refine (List.map_congr_left fun x hx => ?_).trans (List.map_id xs)
              have fx := List.all_eq_true.mp c2 x hx
              cases x with
              | str z => rfl
              | _ => cases fx
            have sq2 : SqE K b H' a ((xs.map txV).map V.str) := by rw [ex]; exact SqE.keep (b := b) sq1 s2
            have big : (1000 : Nat) < scanBound := by decide
            refine iteT ⟨_, rfl, a, xs.map txV, rfl, ?_, by rw [List.length_map]; omega, fun p np => ⟨p, _, rfl, upd_same, _, rfl, .ref a, xs.length, rfl, ?_, rfl, ?_⟩⟩
            · cases b with
              | true => exact .inl sq2
              | false => exact .inr sq2
            · have sq3 : SqE K b (upd H' p (SetWO P w p (onceW (xs.map txV)))) a xs := SqE.keep (b := b) (SqE.keep (b := b) sq1 s2) (same_new np)
              cases b with
              | true => exact .inl ⟨xs, sq3, rfl⟩
              | false => exact .inr ⟨xs, sq3, rfl⟩
            · have q := k _ ((s1.trans s2).trans (same_new (o := SetWO P w p (onceW (xs.map txV))) np))
              have e : decide (V.int ((onceW (xs.map txV)).length : Int) = V.int (xs.length : Int)) = decide ((onceW (xs.map txV)).length = xs.length) := by
                rw [Bool.eq_iff_iff, decide_eq_true_iff, decide_eq_true_iff]
                exact ⟨fun h => by have := V.int.inj h; omega, fun h => by rw [h]⟩
              show Q (.bl (decide (V.int ((onceW (xs.map txV)).length : Int) = V.int (xs.length : Int)))) _
              rw [e]
              exact q
    · refine ⟨_, rfl, by show 2 ≤ sizeLine; decide, fun tp ntp => ?_⟩
      have s1 := same_new (o := .tup [.ty "list", .ty "tuple"]) ntp
      exact ⟨y, tp, [.ty "list", .ty "tuple"], t, [.type "list", .type "tuple"], false, rfl, upd_same, .cons (.ty _) (.cons (.ty _) .nil), ty _ s1, kAny_no k1 k2, false, rfl, iteT (k _ s1)⟩
end

end K08

namespace K08
open PySem PySem.Spec PyProof.Rows L2 Jg
local macro_rules | `(tactic| walk_at "rd1") => `(tactic| (first
  | refine ⟨_, rfl, ?_⟩
  | refine ⟨_, _, rfl, rfl, ?_⟩
  | refine ⟨_, _, rfl, ?_⟩
  | refine ⟨rfl, ?_⟩
  | (refine ⟨show (0 : Int) < _ by omega, ?_⟩)
  | (refine ⟨Or.inl ⟨by omega, by omega⟩, ?_⟩)
  | (refine ⟨Or.inr ⟨by omega, by omega⟩, ?_⟩)
  | (refine ⟨(⟨by decide, by decide, by decide⟩ : CPow _ _), ?_⟩)
  | refine Or.inl ⟨_, rfl, ?_⟩
  | refine Or.inr ⟨_, rfl, ?_⟩
  | fail "rd"))
local macro_rules | `(tactic| walk_at "rd") => `(tactic| repeat' walk_at "rd1")


/-! ### the use of a role -/
/-- y is asked for keys: fl is the answer, now and later -/
def KeysIs (K : PySem.W.Frag) (H : Hp) (y : V) (most : Int) (fl : Bool) : Prop := ∀ (H' : Hp) (Q : VK), Same H H' → (∀ H2, Same H' H2 → Q (.bl fl) H2) → spKeys K [y, .int most] H' Q E0
def WordIs (K : PySem.W.Frag) (H : Hp) (y : V) (fl : Bool) : Prop := (∃ z, y = .str z ∧ z.length ≤ sizeLine ∧ fl = wordB z) ∨ (fl = false ∧ ∃ t, (∀ H', Same H H' → TyX K H' y t) ∧ kit K t "str" false)
theorem WordIs.keep {K : PySem.W.Frag} {H H' : Hp} {y : V} {fl : Bool} (h : WordIs K H y fl) (s : Same H H') : WordIs K H' y fl := h.elim .inl fun ⟨e, t, ty, k⟩ => .inr ⟨e, t, fun H2 s2 => ty H2 (s.trans s2), k⟩
theorem KeysIs.keep {K : PySem.W.Frag} {H H' : Hp} {y : V} {m : Int} {fl : Bool} (h : KeysIs K H y m fl) (s : Same H H') : KeysIs K H' y m fl := fun H2 Q s2 q => h H2 Q (s.trans s2) q
@[irreducible] def spKeysI (K : PySem.W.Frag) : Sp := spKeys K
theorem KeysIs.i {K : PySem.W.Frag} {H : Hp} {y : V} {m : Int} {fl : Bool} (h : KeysIs K H y m fl) (H' : Hp) (Q : VK) (s : Same H H') (q : ∀ H2, Same H' H2 → Q (.bl fl) H2) : spKeysI K [y, .int m] H' Q E0 := by
  unfold spKeysI
  exact h H' Q s q
def spUse (K : PySem.W.Frag) : Sp := fun vs H Q _ => ∃ y, vs = [y] ∧
  ((∃ t, TyX K H y t ∧ kit K t "tuple" false ∧ Q (.bl false) H) ∨
   (∃ tp xs, y = .ref tp ∧ H tp = some (.tup xs) ∧ xs.length ≠ 2 ∧ Q (.bl false) H) ∨
   (∃ tp a u fa fu, y = .ref tp ∧ H tp = some (.tup [a, u]) ∧ KeysIs K H a 8 fa ∧ WordIs K H u fu ∧ ∀ H', Same H H' → Q (.bl (fa && fu)) H'))
section
variable {P : Program} {w : World} {K : PySem.W.Frag} {mg : Str → Option Value} {base : Heap}
abbrev s_is_use : Stmt := top 16
theorem sc_is_use : FnScope ["value", "accepted", "used"] ["value"] (defScope s_is_use) := ⟨rfl, rfl, rfl, by decide +kernel, rfl, by decide +kernel, by decide +kernel⟩
theorem ok_use_ (D : DefK K mg "_is_use" s_is_use) (T : Txt K mg) (G_is_word : Cal P w K mg base CX0 1 "is_word" (spWord K)) (G_are_different_keys : Cal P w K mg base CX0 2 "are_different_keys" (spKeysI K)) : Cal P w K mg base CX0 3 "_is_use" (spUse K) := by
  refine D.cal sc_is_use (fun _ _ _ _ _ _ us hl => match us, hl with | [_], _ => rfl) (fun vs H Q E h => ?_) fun f cdv A outer s H vs Q E hr h => ?_
  · obtain ⟨y, rfl, _⟩ := h; rfl
  · obtain ⟨y, rfl, h⟩ := h
    refine ⟨_, (pss_cons (ps_if (PW.pt (pw_or (pt_not (pt_val (pe_callB call_isi (by rfl) T.b_isinstance (by decide +kernel) (pa_cons (pv 0) (pa_cons (pe_ty (n := "tuple") (by rfl) T.b_tuple (by decide +kernel)) pa_nil))))) (pw_or1 (pt_cmpR op_ne (pe_callB call_len_seq (by rfl) T.b_len (by decide +kernel) (pa_cons (pv 0) pa_nil)) pe_int (nomark _))))) (pss_one (ps_ret pe_bl)) pss_nil)
      (pss_cons (ps_asg (pv 0) (pg_tup rfl (pgs_cons (pg_name (i := 1) sc_is_use.nd rfl (Or.inl rfl)) (pgs_cons (pg_name (i := 2) sc_is_use.nd rfl (Or.inl rfl)) pgs_nil))))
      (pss_one (ps_ret (pe_and (pe_c G_are_different_keys hr (by decide) rfl (pa_cons (pv 1) (pa_cons (pe_gc rfl T.g_MOST_ACCEPTED) pa_nil))) (pe_one (pe_c G_is_word hr (by decide) rfl (pa_cons (pv 2) pa_nil)))))))), ?_⟩
    rcases h with ⟨t, ty, kt, q⟩ | ⟨tp, xs, rfl, et, n2, q⟩ | ⟨tp, a, u, fa, fu, rfl, et, ka, wu, k⟩
    · exact ⟨_, rfl, y, .ty "tuple", t, _, false, rfl, .ty "tuple", ty, kt, false, rfl, iteT q⟩
    · refine ⟨_, rfl, .ref tp, .ty "tuple", _, _, true, rfl, .ty "tuple", .base (.tup et), kit_ty (by decide +kernel), true, rfl, iteF ?_⟩
      refine ⟨_, rfl, tp, _, rfl, .inr (SqT.of et), rfl, _, rfl, iteTe (show (!decide (V.int (xs.length : Int) = V.int 2)) = true by rw [decide_eq_false fun z => n2 (by injection z with z; omega)]; rfl) q⟩
    · refine ⟨_, rfl, .ref tp, .ty "tuple", _, _, true, rfl, .ty "tuple", .base (.tup et), kit_ty (by decide +kernel), true, rfl, iteF ?_⟩
      refine ⟨_, rfl, tp, _, rfl, .inr (SqT.of et), rfl, _, rfl, iteF ?_⟩
      refine ⟨_, rfl, tp, _, rfl, SqT.of et, rfl, _, _, rfl, _, _, rfl, rfl, ?_⟩
      refine ⟨_, rfl, ka.i H _ (.refl _) fun H' s1 => ⟨_, rfl, ?_⟩⟩
      have q := k H' s1
      cases fa with
      | false => exact iteF q
      | true =>
        refine iteT ⟨_, rfl, u, rfl, ?_⟩
        rcases wu.keep s1 with ⟨z, rfl, hz, e⟩ | ⟨e, t, ty, kt⟩
        · rw [e] at q; exact .inl ⟨z, rfl, hz, q⟩
        · rw [e] at q; exact .inr ⟨t, ty _ (.refl _), kt, q⟩
theorem ok_use (D : DefK K mg "_is_use" s_is_use) (T : Txt K mg) (G_is_word : Cal P w K mg base CX0 1 "is_word" (spWord K)) (G_are_different_keys : Cal P w K mg base CX0 2 "are_different_keys" (spKeys K)) : Cal P w K mg base CX0 3 "_is_use" (spUse K) :=
  ok_use_ D T G_is_word (by unfold spKeysI; exact G_are_different_keys)
end

end K08

namespace K08
open PySem PySem.Spec PyProof.Rows L2 Jg
local macro_rules | `(tactic| walk_at "rd1") => `(tactic| (first
  | refine ⟨_, rfl, ?_⟩
  | refine ⟨_, _, rfl, rfl, ?_⟩
  | refine ⟨_, _, rfl, ?_⟩
  | refine ⟨rfl, ?_⟩
  | (refine ⟨show (0 : Int) < _ by omega, ?_⟩)
  | (refine ⟨Or.inl ⟨by omega, by omega⟩, ?_⟩)
  | (refine ⟨Or.inr ⟨by omega, by omega⟩, ?_⟩)
  | (refine ⟨(⟨by decide, by decide, by decide⟩ : CPow _ _), ?_⟩)
  | refine Or.inl ⟨_, rfl, ?_⟩
  | refine Or.inr ⟨_, rfl, ?_⟩
  | fail "rd"))
local macro_rules | `(tactic| walk_at "rd") => `(tactic| repeat' walk_at "rd1")


theorem lc_w {J : It} {n : Nat} {G : Hp → Prop} {Y : Nat → Hp → V → Hp → Prop} (W : Walk J n G Y) {g : TG} {tt : TT} {te : TE} {vs : List Nat} {σ : L2.St} {H1 : Hp} {D : Addr} {Qd : Hp → Prop} (Pv : Nat → Hp → Prop) (h0 : Pv 0 (upd H1 D (.lst []))) (hG : ∀ i H, Pv i H → G H)
    (hs : ∀ i H x H', i < n → Pv i H → Y i H x H' → g x (wipe σ vs) H' fun σ2 H2 => wipe σ2 vs = wipe σ vs ∧ tt σ2 H2 fun b H3 =>
      if b = true then te σ2 H3 fun y H4 => ∃ acc, H4 D = some (.lst acc) ∧ acc.length < sizeLine ∧ Pv (i + 1) (upd H4 D (.lst (acc ++ [y]))) else Pv (i + 1) H3) (hd : ∀ H, Pv n H → Qd H) : LcAsk J g tt te vs σ H1 D Qd := by
  refine ⟨fun i m H => m = n - i ∧ i ≤ n ∧ Pv i H, ⟨_, rfl, Nat.zero_le _, h0⟩, ?_⟩
  rintro i m H ⟨rfl, hi, p⟩
  rcases Nat.lt_or_ge i n with lt | ge
  · exact .inr ⟨W.goes i H lt (hG i H p), Pv (i + 1), (fun H' p' => ⟨_, by omega, rfl, lt, p'⟩), fun x H' y => hs i H x H' lt p (W.yields i H x H' lt (hG i H p) y)⟩
  · have e : i = n := by omega
    subst e
    exact .inl ⟨W.stops H (hG i H p), hd H p⟩
/-- all stays, but what stands at d -/
def SameB (d : Addr) (H H' : Hp) : Prop := ∀ q o, H q = some o → q ≠ d → H' q = some o
/-- a role and its use -/
structure Row where
  z : Str
  t : Addr
  a : Addr
  b : Bool
  ks : List Str
  u : Str
structure RowOk (K : PySem.W.Frag) (d : Addr) (H : Hp) (r : Row) : Prop where
  at_ : H r.t = some (.tup [.ref r.a, .str r.u])
  nt : r.t ≠ d
  na : r.a ≠ d
  sq : SqE K r.b H r.a (r.ks.map V.str)
  ty : ∀ H', SameB d H H' → TyX K H' (.ref r.a) (.type (if r.b then "list" else "tuple"))
  few : r.ks.length ≤ 500
  sh : ∀ k ∈ r.ks, k.length ≤ sizeLine
  zu : r.z.length ≤ sizeLine ∧ r.u.length ≤ sizeLine
def rowB (r : Row) : Bool := wordB r.z && (keysB (r.ks.map V.str) 8 && wordB r.u)
def dictOf (rows : List Row) : List (Key × V) := rows.map fun r => (Sum.inr r.z, V.ref r.t)
theorem val_row : ∀ (rows : List Row) (r : Row), (rows.map (·.z)).Nodup → r ∈ rows → valV (dictOf rows) (Sum.inr r.z) = some (.ref r.t) := by
  intro rows
  induction rows with
  | nil => intro r _ h; cases h
  | cons p rest ih =>
    intro r nd hr
    rw [List.map_cons, List.nodup_cons] at nd
    show valV ((Sum.inr p.z, V.ref p.t) :: dictOf rest) (Sum.inr r.z) = _
    rcases List.mem_cons.mp hr with e | h
    · rw [e]; exact valV_pos (p := (Sum.inr p.z, V.ref p.t)) rfl
    · have ne : ¬ ((Sum.inr p.z, V.ref p.t) : Key × V).1 = Sum.inr r.z := fun q => nd.1 (List.mem_map.mpr ⟨r, h, (Sum.inr.inj q).symm⟩)
      rw [valV_neg ne]
      exact ih r nd.2 h
theorem SqE.lock {K : PySem.W.Frag} {b : Bool} {d a : Addr} {H H' : Hp} {xs : List V} (h : SqE K b H a xs) (s : SameB d H H') (n : a ≠ d) : SqE K b H' a xs := by
  cases b with
  | true =>
    rcases (show SqL K H a xs from h) with (h | ⟨o, h⟩) | h
    · exact .inl (.inl (s _ _ h n))
    · exact .inl (.inr ⟨o, s _ _ h n⟩)
    · exact .inr h
  | false =>
    rcases (show SqT K H a xs from h) with (h | ⟨o, h⟩) | h
    · exact .inl (.inl (s _ _ h n))
    · exact .inl (.inr ⟨o, s _ _ h n⟩)
    · exact .inr h
def UseB (K : PySem.W.Frag) (d : Addr) (H : Hp) (y : V) (fl : Bool) : Prop := ∀ (H' : Hp) (Q : VK), SameB d H H' → (∀ H2, Same H' H2 → Q (.bl fl) H2) → spUse K [y] H' Q E0
@[irreducible] def spUseI (K : PySem.W.Frag) : Sp := spUse K
theorem UseB.i {K : PySem.W.Frag} {d : Addr} {H : Hp} {y : V} {fl : Bool} (h : UseB K d H y fl) (H' : Hp) (Q : VK) (s : SameB d H H') (q : ∀ H2, Same H' H2 → Q (.bl fl) H2) : spUseI K [y] H' Q E0 := by
  unfold spUseI
  exact h H' Q s q
/-- an entry of a dict that is asked for roles, and the answer about it -/
def EntB (K : PySem.W.Frag) (d : Addr) (H : Hp) (e : Key × V) (fl : Bool) : Prop := (∃ z, e.1 = .inr z ∧ z.length ≤ sizeLine ∧ ((wordB z = false ∧ fl = false) ∨ (wordB z = true ∧ UseB K d H e.2 fl))) ∨ (∃ i, e.1 = .inl i ∧ fl = false)
theorem EntB.keep {K : PySem.W.Frag} {d : Addr} {H H' : Hp} {e : Key × V} {fl : Bool} (h : EntB K d H e fl) (s : SameB d H H') : EntB K d H' e fl := by
  rcases h with ⟨z, a, b, c | ⟨c, u⟩⟩ | h
  · exact .inl ⟨z, a, b, .inl c⟩
  · exact .inl ⟨z, a, b, .inr ⟨c, fun H2 Q s2 q => u H2 Q (fun b o e n => s2 b o (s b o e n) n) q⟩⟩
  · exact .inr h
theorem val_mem {kvs : List (Key × V)} {k : Key} {v : V} (nd : (kvs.map (·.1)).Nodup) (h : (k, v) ∈ kvs) : valV kvs k = some v := by
  induction kvs with
  | nil => cases h
  | cons p rest ih =>
    rw [List.map_cons, List.nodup_cons] at nd
    rcases List.mem_cons.mp h with e | h
    · rw [← e]; exact valV_pos (p := (k, v)) rfl
    · have ne : ¬ p.1 = k := fun q => nd.1 (List.mem_map.mpr ⟨(k, v), h, q.symm⟩)
      rw [valV_neg ne]
      exact ih nd.2 h
theorem ent_len {K : PySem.W.Frag} {d : Addr} {H : Hp} : ∀ {kvs : List (Key × V)} {fs : List Bool}, Paired (EntB K d H) kvs fs → kvs.length = fs.length
  | _, _, .nil => rfl
  | _, _, .cons _ r => by rw [List.length_cons, List.length_cons, ent_len r]
theorem ent_get {K : PySem.W.Frag} {d : Addr} {H : Hp} : ∀ {kvs : List (Key × V)} {fs : List Bool} {i : Nat} {e : Key × V}, Paired (EntB K d H) kvs fs → kvs[i]? = some e → ∃ f, fs[i]? = some f ∧ EntB K d H e f
  | _, _, i, _, .nil, h => by simp at h
  | _, _, 0, _, .cons a _, h => by
    have h' := Option.some.inj h
    subst h'
    exact ⟨_, rfl, a⟩
  | _, _, i + 1, _, .cons _ r, h => let ⟨f, a, b⟩ := ent_get (i := i) r (by simpa using h); ⟨f, by simpa using a, b⟩
def spRoles (P : Program) (w : World) (K : PySem.W.Frag) : Sp := fun vs H Q _ => ∃ y, vs = [y] ∧
  ((∃ t, TyX K H y t ∧ kit K t "dict" false ∧ Q (.bl false) H) ∨
   (∃ d kvs, y = .ref d ∧ H d = some (.dK kvs) ∧ (kvs.length < 1 ∨ 3 < kvs.length) ∧ Q (.bl false) H) ∨
   (∃ d kvs, ∃ fs : List Bool, y = .ref d ∧ H d = some (.dK kvs) ∧ 1 ≤ kvs.length ∧ kvs.length ≤ 3 ∧ (kvs.map (·.1)).Nodup ∧ Paired (EntB K d H) kvs fs ∧ ∀ H', Same H H' → Q (.bl (fs.all id)) H') ∨
   (∃ d, y = .ref d ∧ H d = some (NkO P w d) ∧ ∀ H', Same H H' → Q (.bl false) H'))
section
variable {P : Program} {w : World} {K : PySem.W.Frag} {mg : Str → Option Value} {base : Heap}
abbrev s_are_roles : Stmt := top 17
theorem sc_are_roles : FnScope ["value", "role"] ["value"] (defScope s_are_roles) := ⟨rfl, rfl, rfl, by decide +kernel, rfl, by decide +kernel, by decide +kernel⟩
theorem ok_roles_ (D : DefK K mg "_are_roles" s_are_roles) (T : Txt K mg) (G_is_word : Cal P w K mg base CX0 1 "is_word" (spWord K)) (G_is_use : Cal P w K mg base CX0 3 "_is_use" (spUseI K)) : Cal P w K mg base CX0 4 "_are_roles" (spRoles P w K) := by
  refine D.cal sc_are_roles (fun _ _ _ _ _ _ us hl => match us, hl with | [_], _ => rfl) (fun vs H Q E h => ?_) fun f cdv A outer s H vs Q E hr h => ?_
  · obtain ⟨y, rfl, _⟩ := h; rfl
  · obtain ⟨y, rfl, h⟩ := h
    refine ⟨_, (pss_cons (ps_if (PW.pt (pw_or (pt_not (pt_val (pe_callB (r := rIsiE P w K) call_isiE (by rfl) T.b_isinstance (by decide +kernel) (pa_cons (pv 0) (pa_cons (pe_ty (n := "dict") (by rfl) T.b_dict (by decide +kernel)) pa_nil))))) (pw_or1 (pt_not (pt_chain op_le op_le pe_int (pe_callB (r := rLenE P w) call_lenE (by rfl) T.b_len (by decide +kernel) (pa_cons (pv 0) pa_nil)) (pe_gc rfl T.g_MOST_ROLES)))))) (pss_one (ps_ret pe_bl)) pss_nil)
      (pss_one (ps_ret (pe_lock (pe_callB (cr_all rfl) (by rfl) T.b_all (by decide +kernel) (pa_cons (pe_lc (own := [("role", 1)]) (g := gName 1) (by rfl) sc_are_roles.nd (pi_keysE (pv 0)) (blkOk_by (own := [("role", 1)]) (N := ["value", "role"]) (sc := defScope s_are_roles) (by decide +kernel)) (fun _ _ _ _ _ => pg_name (i := 1) sc_are_roles.nd rfl (Or.inl rfl)) (fun _ _ _ _ _ => pts_nil) (fun _ _ _ _ _ => (pe_and (pe_c G_is_word hr (by decide) rfl (pa_cons (pv 1) pa_nil)) (pe_one (pe_c G_is_use hr (by decide) rfl (pa_cons (pe_dget (Nat.lt_of_le_of_lt (Nat.add_le_add_left (by decide : 1 ≤ 64) _) hr.units) (pv 0) (pv 1) (fun _ _ => rfl)) pa_nil)))))) pa_nil)))))), ?_⟩
    have lock : ∀ {d : Addr} {o : Obj} {u : HO}, H d = some u → SameB d H (upd H d (.frz o u)) ∧ ∀ H', Same (upd H d (.frz o u)) H' → Same H (upd H' d u) := fun {d o u} ed =>
      ⟨fun q o e n => by rw [upd_ne n]; exact e, fun H' s q o e => by
        by_cases c : q = d
        · rw [c] at e ⊢
          rw [upd_same, ← ed]; exact e
        · rw [upd_ne c]
          exact s _ _ (by rw [upd_ne c]; exact e)⟩
    rcases h with ⟨t, ty, kt, q⟩ | ⟨d, kvs, rfl, ed, bad, q⟩ | ⟨d, kvs, fs, rfl, ed, n1, n3, nd, pr, k⟩ | ⟨d, rfl, ed, k⟩
    · exact ⟨_, rfl, .inl ⟨y, .ty "dict", t, _, false, rfl, .ty "dict", ty, kt, false, rfl, iteT q⟩⟩
    · refine ⟨_, rfl, .inl ⟨.ref d, .ty "dict", _, _, true, rfl, .ty "dict", .base (.dK ed), kit_ty (by decide +kernel), true, rfl, iteF ?_⟩⟩
      refine ⟨_, rfl, .inl ⟨d, _, rfl, ed, 1, (kvs.length : Int), rfl, rfl, _, rfl, ?_⟩⟩
      rcases bad with b | b
      · exact iteFe (decide_eq_false (by omega)) ⟨_, rfl, iteT q⟩
      · by_cases c : (1 : Int) ≤ (kvs.length : Int)
        · exact iteTe (decide_eq_true c) ⟨_, _, rfl, rfl, _, rfl, iteTe (by rw [decide_eq_false (by omega)]; rfl) q⟩
        · exact iteFe (decide_eq_false c) ⟨_, rfl, iteT q⟩
    · refine ⟨_, rfl, .inl ⟨.ref d, .ty "dict", _, _, true, rfl, .ty "dict", .base (.dK ed), kit_ty (by decide +kernel), true, rfl, iteF ?_⟩⟩
      refine ⟨_, rfl, .inl ⟨d, _, rfl, ed, 1, (kvs.length : Int), rfl, rfl, _, rfl, ?_⟩⟩
      refine iteTe (decide_eq_true (by omega)) ⟨_, _, rfl, rfl, _, rfl, iteFe (by rw [decide_eq_true (by omega)]; rfl) ?_⟩
      refine ⟨d, _, ed, trivial, fun od => ?_⟩
      have el : upd H d (.frz od (.dK kvs)) d = some (.frz od (.dK kvs)) := upd_same
      obtain ⟨sl, back⟩ := lock (o := od) ed
      generalize upd H d (.frz od (.dK kvs)) = HL at *
      have fl := ent_len pr
      refine ⟨_, rfl, d, od, rfl, .inl ⟨_, el, fun D nD => lc_w walk_keys (fun i H' => Same HL H' ∧ H' D = some (.lst ((fs.take i).map V.bl))) ⟨same_new nD, upd_same⟩ (fun i H' z => z.1 _ _ el) ?_ ?_⟩⟩
      · rintro i H' x H2 lt ⟨s2, eD⟩ ⟨rfl, kk, vv, ek, rfl⟩
        obtain ⟨f0, ef, en⟩ := ent_get pr ek
        have tk : fs.take (i + 1) = fs.take i ++ [f0] := by rw [List.take_succ, ef]; rfl
        have l3 : ((fs.take i).map V.bl).length < sizeLine := by rw [List.length_map, List.length_take, sizeLine_eq]; omega
        have fin : ∀ H4, Same H2 H4 → ∃ acc, H4 D = some (.lst acc) ∧ acc.length < sizeLine ∧ Same HL (upd H4 D (.lst (acc ++ [V.bl f0]))) ∧ upd H4 D (.lst (acc ++ [V.bl f0])) D = some (.lst ((fs.take (i + 1)).map V.bl)) := fun H4 s4 =>
          ⟨_, s4 _ _ eD, l3, (fun q o e => by rw [upd_ne (ne_of_none e nD)]; exact s4 _ _ (s2 _ _ e)), by rw [upd_same, tk, List.map_append]; rfl⟩
        have sL : SameB d H H2 := fun q o e n => s2 _ _ (sl q o e n)
        refine ⟨rfl, yes_if ?_⟩
        rcases en with ⟨z, ez, hz, c⟩ | ⟨i0, ez, c⟩
        · have ez' : kk = .inr z := ez
          subst ez'
          refine ⟨_, rfl, .str z, rfl, .inl ⟨z, rfl, hz, _, rfl, ?_⟩⟩
          rcases c with ⟨wz, rfl⟩ | ⟨wz, ub⟩
          · rw [wz]
            exact iteF (fin _ (.refl _))
          · rw [wz]
            refine iteT ⟨_, rfl, _, rfl, d, vv, rfl, .inl ⟨kvs, .inr z, .inr ⟨od, s2 _ _ el⟩, rfl, (val_mem nd (List.mem_of_getElem? ek)).symm⟩, ub.i H2 _ sL fun H' s' => fin H' s'⟩
        · have ez' : kk = .inl i0 := ez
          subst ez' c
          exact ⟨_, rfl, .int i0, rfl, .inr ⟨_, .base (.int _), kit_ty (by decide +kernel), _, rfl, iteF (fin _ (.refl _))⟩⟩
      · rintro H' ⟨s2, eD⟩
        rw [fl, List.take_length] at eD
        refine ⟨D, fs, rfl, SqL.of eD, s2 _ _ el, ?_⟩
        exact k _ (back _ s2)
    · refine ⟨_, rfl, .inr ⟨d, rfl, ed, true, rfl, iteF ?_⟩⟩
      refine ⟨_, rfl, .inr ⟨d, rfl, ed, 1, 1, rfl, rfl, _, rfl, ?_⟩⟩
      refine iteTe (decide_eq_true (by omega)) ⟨_, _, rfl, rfl, _, rfl, iteFe (by rw [decide_eq_true (by omega)]; rfl) ?_⟩
      refine ⟨d, _, ed, trivial, fun od => ?_⟩
      have el : upd H d (.frz od (NkO P w d)) d = some (.frz od (NkO P w d)) := upd_same
      obtain ⟨sl, back⟩ := lock (o := od) ed
      generalize upd H d (.frz od (NkO P w d)) = HL at *
      refine ⟨_, rfl, d, od, rfl, .inr ⟨el, fun D nD => lc_w walk_none (fun i H' => Same HL H' ∧ H' D = some (.lst (([false].take i).map V.bl))) ⟨same_new nD, upd_same⟩ (fun i H' z => z.1 _ _ el) ?_ ?_⟩⟩
      · rintro i H' x H2 lt ⟨s2, eD⟩ ⟨rfl, rfl⟩
        obtain rfl : i = 0 := by omega
        refine ⟨rfl, yes_if ⟨_, rfl, .non, rfl, .inr ⟨_, .base .non, kit_ty (by decide +kernel), _, rfl, iteF ?_⟩⟩⟩
        exact ⟨_, eD, by show 0 < sizeLine; decide, (fun q o e => by rw [upd_ne (ne_of_none e nD)]; exact s2 _ _ e), upd_same⟩
      · rintro H' ⟨s2, eD⟩
        refine ⟨D, [false], rfl, SqL.of eD, s2 _ _ el, ?_⟩
        exact k _ (back _ s2)
theorem ok_roles (D : DefK K mg "_are_roles" s_are_roles) (T : Txt K mg) (G_is_word : Cal P w K mg base CX0 1 "is_word" (spWord K)) (G_is_use : Cal P w K mg base CX0 3 "_is_use" (spUse K)) : Cal P w K mg base CX0 4 "_are_roles" (spRoles P w K) :=
  ok_roles_ D T G_is_word (by unfold spUseI; exact G_is_use)
end

end K08

namespace K08
open PySem PySem.Spec PyProof.Rows L2 Jg
local macro_rules | `(tactic| walk_at "rd1") => `(tactic| (first
  | refine ⟨_, rfl, ?_⟩
  | refine ⟨_, _, rfl, rfl, ?_⟩
  | refine ⟨_, _, rfl, ?_⟩
  | refine ⟨rfl, ?_⟩
  | (refine ⟨show (0 : Int) < _ by omega, ?_⟩)
  | (refine ⟨Or.inl ⟨by omega, by omega⟩, ?_⟩)
  | (refine ⟨Or.inr ⟨by omega, by omega⟩, ?_⟩)
  | (refine ⟨(⟨by decide, by decide, by decide⟩ : CPow _ _), ?_⟩)
  | refine Or.inl ⟨_, rfl, ?_⟩
  | refine Or.inr ⟨_, rfl, ?_⟩
  | fail "rd"))
local macro_rules | `(tactic| walk_at "rd") => `(tactic| repeat' walk_at "rd1")


/-! ### the first wrong part -/
def RolesIs (P : Program) (w : World) (K : PySem.W.Frag) (H : Hp) (y : V) (fl : Bool) : Prop := ∀ (H' : Hp) (Q : VK), Same H H' → (∀ H2, Same H' H2 → Q (.bl fl) H2) → spRoles P w K [y] H' Q E0
/-- what is asked of needed -/
def NeedIs (K : PySem.W.Frag) (H : Hp) (y : V) (fl : Bool) : Prop := (∃ i, y = .int i ∧ fl = (decide (0 ≤ i) && decide (i ≤ 4))) ∨ (fl = false ∧ ∃ t b1 b2, (∀ H', Same H H' → TyX K H' y t) ∧ kit K t "int" b1 ∧ (b1 = true → kit K t "bool" b2) ∧ (b1 && !b2) = false)
def wrongV (f1 f2 f3 f4 : Bool) : V := if f1 = false then .str "roles" else if f2 = false then .str "vouchers" else if f3 = false then .str "needed" else if f4 = false then .str "signers" else .non
def spWrong (P : Program) (w : World) (K : PySem.W.Frag) : Sp := fun vs H Q _ => ∃ r v n s f1 f2 f3 f4, vs = [r, v, n, s] ∧ RolesIs P w K H r f1 ∧ KeysIs K H v 4 f2 ∧ NeedIs K H n f3 ∧ ((s = .non ∧ f4 = true) ∨ (s ≠ .non ∧ KeysIs K H s 4 f4)) ∧ ∀ H', Same H H' → Q (wrongV f1 f2 f3 f4) H'
@[irreducible] def spRolesI (P : Program) (w : World) (K : PySem.W.Frag) : Sp := spRoles P w K
theorem RolesIs.i {P : Program} {w : World} {K : PySem.W.Frag} {H : Hp} {y : V} {fl : Bool} (h : RolesIs P w K H y fl) (H' : Hp) (Q : VK) (s : Same H H') (q : ∀ H2, Same H' H2 → Q (.bl fl) H2) : spRolesI P w K [y] H' Q E0 := by
  unfold spRolesI
  exact h H' Q s q
section
variable {P : Program} {w : World} {K : PySem.W.Frag} {mg : Str → Option Value} {base : Heap}
abbrev s_wrong_part : Stmt := top 18
theorem sc_wrong_part : FnScope ["roles", "vouchers", "needed", "signers"] ["roles", "vouchers", "needed", "signers"] (defScope s_wrong_part) := ⟨rfl, rfl, rfl, by decide +kernel, rfl, by decide +kernel, by decide +kernel⟩
theorem ok_wrong_ (D : DefK K mg "_wrong_part" s_wrong_part) (T : Txt K mg) (G_is_integer : Cal P w K mg base CX0 1 "is_integer" (spIsInt K)) (G_are_different_keys : Cal P w K mg base CX0 2 "are_different_keys" (spKeysI K)) (G_are_roles : Cal P w K mg base CX0 4 "_are_roles" (spRolesI P w K)) : Cal P w K mg base CX0 5 "_wrong_part" (spWrong P w K) := by
  refine D.cal sc_wrong_part (fun _ _ _ _ _ _ us hl => match us, hl with | [_, _, _, _], _ => rfl) (fun vs H Q E h => ?_) fun f cdv A outer s H vs Q E hr h => ?_
  · obtain ⟨r, v, n, s, f1, f2, f3, f4, rfl, _⟩ := h; rfl
  · obtain ⟨r, v, n, sg, f1, f2, f3, f4, rfl, a1, a2, a3, a4, k⟩ := h
    refine ⟨_, (pss_cons (ps_if (pt_not (pt_val (pe_c G_are_roles hr (by decide) rfl (pa_cons (pv 0) pa_nil)))) (pss_one (ps_ret pe_str)) pss_nil)
      (pss_cons (ps_if (pt_not (pt_val (pe_c G_are_different_keys hr (by decide) rfl (pa_cons (pv 1) (pa_cons (pe_gc rfl T.g_MOST_VOUCHERS) pa_nil))))) (pss_one (ps_ret pe_str)) pss_nil)
      (pss_cons (ps_if (PW.pt (pw_or (pt_not (pt_val (pe_c G_is_integer hr (by decide) rfl (pa_cons (pv 2) pa_nil)))) (pw_or1 (pt_not (pt_chain op_le op_le pe_int (pv 2) (pe_gc rfl T.g_MOST_NEEDED)))))) (pss_one (ps_ret pe_str)) pss_nil)
      (pss_cons (ps_if (PW.pt (pw_and (pt_cmpR op_notN (pv 3) pe_non (nomark _)) (pw_and1 (pt_not (pt_val (pe_c G_are_different_keys hr (by decide) rfl (pa_cons (pv 3) (pa_cons (pe_gc rfl T.g_MOST_VOUCHERS) pa_nil)))))))) (pss_one (ps_ret pe_str)) pss_nil)
      (pss_one (ps_ret pe_non)))))), ?_⟩
    refine ⟨_, rfl, a1.i H _ (Same.refl _) fun H1 s1 => ⟨_, rfl, ?_⟩⟩
    cases f1 with
    | false => exact iteT (k _ s1)
    | true =>
      refine iteF ⟨_, rfl, a2.i H1 _ s1 fun H2 s2 => ⟨_, rfl, ?_⟩⟩
      have s12 := s1.trans s2
      cases f2 with
      | false => exact iteT (k _ s12)
      | true =>
        refine iteF ?_
        rcases a3 with ⟨i, rfl, e3⟩ | ⟨rfl, t, b1, b2, ty, k1, k2, e⟩
        · refine ⟨_, rfl, .int i, _, true, false, rfl, .base (.int i), kii, fun _ => kib, true, rfl, iteF ?_⟩
          refine ⟨_, rfl, 0, i, rfl, rfl, _, rfl, ?_⟩
          by_cases c1 : 0 ≤ i
          · refine iteTe (decide_eq_true c1) ⟨_, _, rfl, rfl, _, rfl, ?_⟩
            by_cases c2 : i ≤ 4
            · rw [decide_eq_true c1, decide_eq_true c2] at e3
              subst e3
              refine iteFe (by rw [decide_eq_true c2]; rfl) ⟨_, rfl, rfl, _, rfl, ?_⟩
              rcases a4 with ⟨rfl, rfl⟩ | ⟨nn, a4⟩
              · exact iteF (k _ s12)
              · refine iteTe (by rw [decide_eq_false nn]; rfl) ⟨_, rfl, a4.i H2 _ s12 fun H3 s3 => ⟨_, rfl, ?_⟩⟩
                cases f4 with
                | false => exact iteT (k _ (s12.trans s3))
                | true => exact iteF (k _ (s12.trans s3))
            · rw [decide_eq_false c2, Bool.and_false] at e3
              subst e3
              exact iteTe (by rw [decide_eq_false c2]; rfl) (k _ s12)
          · rw [decide_eq_false c1, Bool.false_and] at e3
            subst e3
            exact iteFe (decide_eq_false c1) ⟨_, rfl, iteT (k _ s12)⟩
        · refine ⟨_, rfl, n, t, b1, b2, rfl, ty _ s12, k1, k2, _, rfl, ?_⟩
          rw [e]
          exact iteT (k _ s12)
theorem ok_wrong (D : DefK K mg "_wrong_part" s_wrong_part) (T : Txt K mg) (G_is_integer : Cal P w K mg base CX0 1 "is_integer" (spIsInt K)) (G_are_different_keys : Cal P w K mg base CX0 2 "are_different_keys" (spKeys K)) (G_are_roles : Cal P w K mg base CX0 4 "_are_roles" (spRoles P w K)) : Cal P w K mg base CX0 5 "_wrong_part" (spWrong P w K) :=
  ok_wrong_ D T G_is_integer (by unfold spKeysI; exact G_are_different_keys) (by unfold spRolesI; exact G_are_roles)
end

end K08

namespace K08
open PySem PySem.Spec PyProof.Rows L2 Jg
local macro_rules | `(tactic| walk_at "rd1") => `(tactic| (first
  | refine ⟨_, rfl, ?_⟩
  | refine ⟨_, _, rfl, rfl, ?_⟩
  | refine ⟨_, _, rfl, ?_⟩
  | refine ⟨rfl, ?_⟩
  | (refine ⟨show (0 : Int) < _ by omega, ?_⟩)
  | (refine ⟨Or.inl ⟨by omega, by omega⟩, ?_⟩)
  | (refine ⟨Or.inr ⟨by omega, by omega⟩, ?_⟩)
  | (refine ⟨(⟨by decide, by decide, by decide⟩ : CPow _ _), ?_⟩)
  | refine Or.inl ⟨_, rfl, ?_⟩
  | refine Or.inr ⟨_, rfl, ?_⟩
  | fail "rd"))
local macro_rules | `(tactic| walk_at "rd") => `(tactic| repeat' walk_at "rd1")


/-! ### what is raised -/
structure ExnQ (K : PySem.W.Frag) (mg : Str → Option Value) (x : Str) (CI : Addr) (qual : Str) (st : Stmt) (f : Str) : Prop where
  mg_ : mg x = some (.ref CI)
  ovr : Ovr K CI
  xk : ExcK K CI
  no : PySem.W.findIn K (.ref CI) f = some none
  ini : ∃ fI fd, Fun K "__init__" qual st fI fd ∧ PySem.W.findIn K (.ref CI) "__init__" = some (some (.ref fI)) ∧ PySem.W.typeIn K (.ref fI) = some (.type "function")
  te : PySem.W.exmOne K (.ref CI) (.ref CI) = some true
theorem same_mut {H H1 : Hp} {p : Addr} {o : HO} (s : Same H H1) (h : H p = none) : Same H (upd H1 p o) := fun b u e => by rw [upd_ne (ne_of_none e h)]; exact s b u e
/-! ### keys as they are given -/
structure KL where
  a : Addr
  b : Bool
  ks : List Str
structure KLOk (K : PySem.W.Frag) (H : Hp) (l : KL) : Prop where
  sq : SqE K l.b H l.a (l.ks.map V.str)
  ty : ∀ H', Same H H' → TyX K H' (.ref l.a) (.type (if l.b then "list" else "tuple"))
  few : l.ks.length ≤ 500
  sh : ∀ k ∈ l.ks, k.length ≤ sizeLine
theorem KLOk.keep {K : PySem.W.Frag} {H H' : Hp} {l : KL} (h : KLOk K H l) (s : Same H H') : KLOk K H' l := ⟨SqE.keep h.sq s, fun H2 s2 => h.ty H2 (s.trans s2), h.few, h.sh⟩
theorem KLOk.its {K : PySem.W.Frag} {H : Hp} {l : KL} (h : KLOk K H l) : ∀ x ∈ l.ks.map V.str, ItOk K H x := fun x hx => by
  obtain ⟨z, hz, rfl⟩ := List.mem_map.mp hx
  exact .inl ⟨z, rfl, h.sh z hz⟩
theorem KLOk.is {K : PySem.W.Frag} {H : Hp} {l : KL} (h : KLOk K H l) (m : Int) : KeysIs K H (.ref l.a) m (keysB (l.ks.map V.str) m) := fun H' Q s q =>
  ⟨.ref l.a, m, rfl, .inl ⟨l.a, l.b, _, rfl, (h.keep s).sq, (h.keep s).ty, by rw [List.length_map]; exact h.few, (h.keep s).its, q⟩⟩
theorem row_ent {K : PySem.W.Frag} {d : Addr} {H : Hp} {r : Row} (R : RowOk K d H r) : EntB K d H (.inr r.z, .ref r.t) (rowB r) := by
  refine .inl ⟨r.z, rfl, R.zu.1, ?_⟩
  unfold rowB
  cases c : wordB r.z with
  | false => exact .inl ⟨rfl, rfl⟩
  | true =>
    refine .inr ⟨rfl, fun H' Q s q => ⟨_, rfl, .inr (.inr ⟨r.t, .ref r.a, .str r.u, keysB (r.ks.map V.str) 8, wordB r.u, rfl, s _ _ R.at_ R.nt, fun H2 Q2 s2 q2 => ⟨.ref r.a, 8, rfl, .inl ⟨r.a, r.b, r.ks.map V.str, rfl, SqE.keep (SqE.lock (b := r.b) R.sq s R.na) s2, fun H3 s3 => R.ty H3 fun b o e n => s3 _ _ (s2 _ _ (s b o e n)), by rw [List.length_map]; exact R.few, fun x hx => ?_, q2⟩⟩, .inl ⟨r.u, rfl, R.zu.2, rfl⟩, q⟩)⟩⟩
    obtain ⟨z, hz, rfl⟩ := List.mem_map.mp hx
    exact .inl ⟨z, rfl, R.sh z hz⟩
theorem rows_ent {K : PySem.W.Frag} {d : Addr} {H : Hp} : ∀ {rows : List Row}, (∀ r ∈ rows, RowOk K d H r) → Paired (EntB K d H) (dictOf rows) (rows.map rowB)
  | [], _ => .nil
  | r :: rest, h => .cons (row_ent (h r List.mem_cons_self)) (rows_ent fun q hq => h q (List.mem_cons_of_mem _ hq))
theorem ents_keep {K : PySem.W.Frag} {d : Addr} {H H' : Hp} (s : SameB d H H') : ∀ {kvs : List (Key × V)} {fs : List Bool}, Paired (EntB K d H) kvs fs → Paired (EntB K d H') kvs fs
  | _, _, .nil => .nil
  | _, _, .cons a r => .cons (a.keep s) (ents_keep s r)
theorem roles_of {P : Program} {w : World} {K : PySem.W.Frag} {H : Hp} {d : Addr} {kvs : List (Key × V)} {fs : List Bool} (ed : H d = some (.dK kvs)) (h1 : 1 ≤ kvs.length) (h3 : kvs.length ≤ 3) (nd : (kvs.map (·.1)).Nodup) (pr : Paired (EntB K d H) kvs fs) : RolesIs P w K H (.ref d) (fs.all id) := fun H' Q s q =>
  ⟨_, rfl, .inr (.inr (.inl ⟨d, kvs, fs, rfl, s _ _ ed, h1, h3, nd, ents_keep (fun b o e _ => s b o e) pr, q⟩))⟩
theorem roles_is {P : Program} {w : World} {K : PySem.W.Frag} {H : Hp} {d : Addr} {rows : List Row} (ed : H d = some (.dK (dictOf rows))) (h1 : 1 ≤ rows.length) (h3 : rows.length ≤ 3) (nd : (rows.map (·.z)).Nodup) (ok : ∀ r ∈ rows, RowOk K d H r) : RolesIs P w K H (.ref d) (rows.all rowB) := by
  have dl : (dictOf rows).length = rows.length := List.length_map ..
  have al : (rows.map rowB).all id = rows.all rowB := by rw [List.all_map]; rfl
  rw [← al]
  refine roles_of ed (by omega) (by omega) ?_ (rows_ent ok)
  have e : (dictOf rows).map (·.1) = (rows.map (·.z)).map Sum.inr := by unfold dictOf; rw [List.map_map, List.map_map]; rfl
  rw [e]
  exact List.pairwise_map.mpr (List.Pairwise.imp (fun h q => h (Sum.inr.inj q)) nd)
theorem needs_is {K : PySem.W.Frag} {H : Hp} {ne : Int} (h0 : 0 ≤ ne) (h4 : ne ≤ 4) : NeedIs K H (.int ne) true := .inl ⟨ne, rfl, by rw [decide_eq_true h0, decide_eq_true h4]; rfl⟩
theorem NeedIs.keep {K : PySem.W.Frag} {H H' : Hp} {y : V} {fl : Bool} (h : NeedIs K H y fl) (s : Same H H') : NeedIs K H' y fl := h.imp id fun ⟨e, t, b1, b2, ty, r⟩ => ⟨e, t, b1, b2, fun H2 s2 => ty H2 (s.trans s2), r⟩
theorem keys_once {ks : List Str} {m : Int} (h : keysB (ks.map V.str) m = true) : ks.Nodup ∧ (ks.length : Int) ≤ m ∧ ∀ k ∈ ks, wordB k = true := by
  unfold keysB at h
  obtain ⟨h1, h2⟩ := Bool.and_eq_true_iff.mp h
  obtain ⟨h3, h4⟩ := Bool.and_eq_true_iff.mp h2
  have e : (ks.map V.str).map txV = ks := by rw [List.map_map]; exact (List.map_congr_left fun _ _ => rfl).trans (List.map_id ks)
  rw [e, List.length_map] at h4
  rw [List.length_map] at h1
  have nd := (onceW_all ks []).mp (by simpa [onceW] using of_decide_eq_true h4)
  refine ⟨nd.1, ?_, fun k hk => List.all_eq_true.mp h3 _ (List.mem_map_of_mem hk)⟩
  have z : ¬ m < (ks.length : Int) := by simpa using h1
  omega
theorem once_perm {ks : List Str} (h : ks.Nodup) : (onceW ks).Perm ks := by
  exact (List.perm_ext_iff_of_nodup (l₁ := onceW ks) (onceW_nodup ks [] List.nodup_nil) h).mpr fun z => onceW_mem
/-! ### contents as they stand -/
structure Use where
  z : Str
  t : Addr
  a : Addr
  ks : List Str
  u : Str
def dictU (us : List Use) : List (Key × V) := us.map fun r => (Sum.inr r.z, V.ref r.t)
structure UAt (S : Addr → Prop) (H : Hp) (r : Use) : Prop where
  tp : H r.t = some (.tup [.ref r.a, .str r.u])
  ls : H r.a = some (.lst (r.ks.map V.str))
  st : S r.t
  sa : S r.a
structure Ct where
  us : List Use
  vo : List Str
  ne : Int
  si : List Str
def cflds (d v : Addr) (n : Int) (s : Addr) : List (Str × V) := [("_uses", .ref d), ("_vouchers", .ref v), ("_needed", .int n), ("_signers", .ref s)]
structure CAt (S : Addr → Prop) (C : Addr) (H : Hp) (x : Addr) (c : Ct) : Prop where
  ex : ∃ dx d v s, H x = some (.ins C dx (cflds d v c.ne s)) ∧ H d = some (.dK (dictU c.us)) ∧ H v = some (.lst (c.vo.map V.str)) ∧ H s = some (.lst (c.si.map V.str)) ∧ S x ∧ S d ∧ S v ∧ S s
  uses : ∀ r ∈ c.us, UAt S H r
structure KsOk (ks : List Str) (m : Nat) : Prop where
  nd : ks.Nodup
  so : sortedS ks = true
  le : ks.length ≤ m
  w : ∀ k ∈ ks, wordB k = true
structure CtOk (c : Ct) : Prop where
  n1 : 1 ≤ c.us.length
  n3 : c.us.length ≤ 3
  nd : (c.us.map (·.z)).Nodup
  so : sortedS (c.us.map (·.z)) = true
  us : ∀ r ∈ c.us, KsOk r.ks 8 ∧ wordB r.z = true ∧ wordB r.u = true
  vo : KsOk c.vo 4
  si : KsOk c.si 4
  ne : 0 ≤ c.ne ∧ c.ne ≤ 4
/-- contents that are made of what was given -/
structure Made (rows : List Row) (vks : List Str) (ne : Int) (sks : List Str) (c : Ct) : Prop where
  zs : c.us.map (·.z) = srtW (rows.map (·.z))
  us : ∀ r ∈ c.us, ∃ q ∈ rows, q.z = r.z ∧ q.u = r.u ∧ r.ks = srtW q.ks
  vo : c.vo = srtW vks
  ne : c.ne = ne
  si : c.si = srtW sks
theorem CAt.keep {S : Addr → Prop} {C : Addr} {H H' : Hp} {x : Addr} {c : Ct} (h : CAt S C H x c) (s : ∀ q o, H q = some o → S q → H' q = some o) : CAt S C H' x c := by
  obtain ⟨⟨dx, d, v, sg, e1, e2, e3, e4, k1, k2, k3, k4⟩, us⟩ := h
  exact ⟨⟨dx, d, v, sg, s _ _ e1 k1, s _ _ e2 k2, s _ _ e3 k3, s _ _ e4 k4, k1, k2, k3, k4⟩, fun r hr => ⟨s _ _ (us r hr).tp (us r hr).st, s _ _ (us r hr).ls (us r hr).sa, (us r hr).st, (us r hr).sa⟩⟩
theorem CAt.same {S : Addr → Prop} {C : Addr} {H H' : Hp} {x : Addr} {c : Ct} (h : CAt S C H x c) (s : Same H H') : CAt S C H' x c := h.keep fun q o e _ => s q o e
theorem CAt.wider {S S' : Addr → Prop} {C : Addr} {H : Hp} {x : Addr} {c : Ct} (h : CAt S C H x c) (s : ∀ q, S q → S' q) : CAt S' C H x c := by
  obtain ⟨⟨dx, d, v, sg, e1, e2, e3, e4, k1, k2, k3, k4⟩, us⟩ := h
  exact ⟨⟨dx, d, v, sg, e1, e2, e3, e4, s _ k1, s _ k2, s _ k3, s _ k4⟩, fun r hr => ⟨(us r hr).tp, (us r hr).ls, s _ (us r hr).st, s _ (us r hr).sa⟩⟩
theorem ksOk_srt {ks : List Str} {m : Nat} (h : keysB (ks.map V.str) m = true) : KsOk (srtW ks) m := by
  obtain ⟨h1, h2, h3⟩ := keys_once h
  exact ⟨srtW_nodup.mpr h1, srtW_sorted _, by rw [srtW_len]; omega, fun k hk => h3 k (srtW_mem.mp hk)⟩
theorem val_use : ∀ (us : List Use) (z : Str), z ∉ us.map (·.z) → valV (dictU us) (Sum.inr z) = none
  | [], _, _ => rfl
  | r :: rest, z, h => by
    rw [List.map_cons, List.mem_cons, not_or] at h
    show valV ((Sum.inr r.z, V.ref r.t) :: dictU rest) (Sum.inr z) = none
    rw [valV_neg (fun q => h.1 (Sum.inr.inj q).symm)]
    exact val_use rest z h.2
theorem put_use {us : List Use} {r : Use} (h : r.z ∉ us.map (·.z)) : putK (dictU us) (Sum.inr r.z) (V.ref r.t) = dictU (us ++ [r]) := by
  rw [putK_new _ (val_use us _ h)]
  unfold dictU
  rw [List.map_append]; rfl
theorem UAt.put {S : Addr → Prop} {H H' : Hp} {r : Use} (h : UAt S H r) (s : ∀ q o, H q = some o → (∃ xs, o = .lst xs) ∨ (∃ xs, o = .tup xs) → H' q = some o) : UAt S H' r := ⟨s _ _ h.tp (.inr ⟨_, rfl⟩), s _ _ h.ls (.inl ⟨_, rfl⟩), h.st, h.sa⟩
/-- the class's facts -/
structure CTx (K : PySem.W.Frag) (mg : Str → Option Value) (C : Addr) : Prop where
  cl : Cls K C
  cC : mg "Contents" = some (.ref C)
  cls_ : PySem.W.findIn K (.ref C) "__class__" = some (some (.builtin "object.__class__"))
  cgt : PySem.W.specialIn K (.builtin "object.__class__") "__get__" = some (some (.builtin "getset_descriptor.__get__"))
  ctk : PySem.W.takesIn K (.builtin "object.__class__") = some true
  mro : PySem.W.mroIn K C (.type "object") = some true
  ne : PySem.W.findIn K (.ref C) "__ne__" = some (some (.builtin "object.__ne__"))
  kCC : PySem.W.kitOne K (.ref C) (.ref C) = some true
  kN : PySem.W.kitOne K (.type "NoneType") (.ref C) = some false
  kI : PySem.W.kitOne K (.type "int") (.ref C) = some false
  kS : PySem.W.kitOne K (.type "str") (.ref C) = some false
  kL : PySem.W.kitOne K (.type "list") (.ref C) = some false
  kT : PySem.W.kitOne K (.type "tuple") (.ref C) = some false
  kD : PySem.W.kitOne K (.type "dict") (.ref C) = some false
  oCC : PySem.W.notFirst K C (.ref C) = true
  oN : PySem.W.notFirst K C (.type "NoneType") = true
  oI : PySem.W.notFirst K C (.type "int") = true
  oS : PySem.W.notFirst K C (.type "str") = true
  oL : PySem.W.notFirst K C (.type "list") = true
  oT : PySem.W.notFirst K C (.type "tuple") = true
  oD : PySem.W.notFirst K C (.type "dict") = true
  nu : NoAttr K C "_uses"
  nv : NoAttr K C "_vouchers"
  nn : NoAttr K C "_needed"
  ns : NoAttr K C "_signers"
theorem put_v (d v : V) : putF "_vouchers" v [(("_uses" : Str), d)] = [(("_uses" : Str), d), ("_vouchers", v)] := by
  have e : ¬ (("_uses" : Str) = "_vouchers") := by decide +kernel
  show (if ("_uses" : Str) = "_vouchers" then _ else _) = _
  rw [if_neg e]; rfl
theorem put_n (d v n : V) : putF "_needed" n [(("_uses" : Str), d), ("_vouchers", v)] = [(("_uses" : Str), d), ("_vouchers", v), ("_needed", n)] := by
  have e : ¬ (("_uses" : Str) = "_needed") := by decide +kernel
  have e2 : ¬ (("_vouchers" : Str) = "_needed") := by decide +kernel
  show (if ("_uses" : Str) = "_needed" then _ else _ :: (if ("_vouchers" : Str) = "_needed" then _ else _)) = _
  rw [if_neg e, if_neg e2]; rfl
theorem put_s (d v n s : V) : putF "_signers" s [(("_uses" : Str), d), ("_vouchers", v), ("_needed", n)] = [(("_uses" : Str), d), ("_vouchers", v), ("_needed", n), ("_signers", s)] := by
  have e : ¬ (("_uses" : Str) = "_signers") := by decide +kernel
  have e2 : ¬ (("_vouchers" : Str) = "_signers") := by decide +kernel
  have e3 : ¬ (("_needed" : Str) = "_signers") := by decide +kernel
  show (if ("_uses" : Str) = "_signers" then _ else _ :: (if ("_vouchers" : Str) = "_signers" then _ else _ :: (if ("_needed" : Str) = "_signers" then _ else _))) = _
  rw [if_neg e, if_neg e2, if_neg e3]; rfl
/-- what is given to Contents, all of it right -/
structure Right (K : PySem.W.Frag) (H : Hp) (r v n s : V) (rows : List Row) (lv : KL) (ne : Int) (so : Option KL) : Prop where
  r_ : ∃ d, r = .ref d ∧ H d = some (.dK (dictOf rows)) ∧ ∀ q ∈ rows, RowOk K d H q
  n1 : 1 ≤ rows.length
  n3 : rows.length ≤ 3
  nd : (rows.map (·.z)).Nodup
  rb : rows.all rowB = true
  v_ : v = .ref lv.a ∧ KLOk K H lv ∧ keysB (lv.ks.map V.str) 4 = true
  n_ : n = .int ne ∧ 0 ≤ ne ∧ ne ≤ 4
  s_ : (s = .non ∧ so = none) ∨ ∃ l, s = .ref l.a ∧ so = some l ∧ KLOk K H l ∧ keysB (l.ks.map V.str) 4 = true
def sgOf (lv : KL) (so : Option KL) : List Str := (so.getD lv).ks
/-- .. and some of it wrong -/
def Wrongly (P : Program) (w : World) (K : PySem.W.Frag) (H : Hp) (r v n s : V) (y : V) : Prop := ∃ f1 f2 f3 f4, RolesIs P w K H r f1 ∧ KeysIs K H v 4 f2 ∧ NeedIs K H n f3 ∧ ((s = .non ∧ f4 = true) ∨ (s ≠ .non ∧ KeysIs K H s 4 f4)) ∧ wrongV f1 f2 f3 f4 = y ∧ y ≠ .non
def spCInit (P : Program) (w : World) (K : PySem.W.Frag) (C CI : Addr) : Sp := fun vs H Q E => ∃ x dx r v n s H0, vs = [.ref x, r, v, n, s] ∧ H x = some (.ins C dx []) ∧ Same H0 H ∧ H0 x = none ∧
  ((∃ rows lv ne so, Right K H0 r v n s rows lv ne so ∧ ∀ H' c, CAt (fun q => H0 q = none) C H' x c → Made rows lv.ks ne (sgOf lv so) c → CtOk c → Same H0 H' → Q .non H') ∨
   (∃ y, Wrongly P w K H0 r v n s y ∧ ∀ d H', H0 d = none → Same H0 H' → H' d = some (.xd [(("part" : Str), y)]) → E (.ref CI) (some d) H'))
section
variable {P : Program} {w : World} {K : PySem.W.Frag} {mg : Str → Option Value} {base : Heap} {C CI : Addr}
abbrev s_InvalidContents_init : Stmt := inClass (top 3) 0
theorem sc_InvalidContents_init : FnScope ["self", "part"] ["self", "part"] (defScope s_InvalidContents_init) := ⟨rfl, rfl, rfl, by decide +kernel, rfl, by decide +kernel, by decide +kernel⟩
theorem ok_cxinit (D : ExnQ K mg "InvalidContents" CI "InvalidContents.__init__" s_InvalidContents_init "part") : ExnB P w K mg base 1 "InvalidContents" CI (spX CI "part") := by
  obtain ⟨fI, fd, F, a, ty⟩ := D.ini
  refine ⟨D.mg_, D.ovr, fI, fd, _, F.ok sc_InvalidContents_init (fun vs H Q E h => ?_) (fun cdv A outer s H vs Q E hr h => ?_), a, ty, F.binds (fun _ _ _ _ _ _ us hl => match us, hl with | [_, _], _ => rfl)⟩
  · obtain ⟨a, y, rfl, _⟩ := h; rfl
  · obtain ⟨a, y, rfl, ha, k⟩ := h
    exact ⟨_, (pss_one (ps_keep (pv 0) (pv 1))), _, rfl, _, rfl, a, CI, rfl, D.ovr, D.no, ha, fun dx n e => k dx n e⟩
abbrev s_Contents_init : Stmt := inClass (top 21) 0
theorem sc_Contents_init : FnScope ["self", "roles", "vouchers", "needed", "signers", "part", "role", "accepted", "used"] ["self", "roles", "vouchers", "needed", "signers"] (defScope s_Contents_init) := ⟨rfl, rfl, rfl, by decide +kernel, rfl, by decide +kernel, by decide +kernel⟩
theorem body_cinit (T : Txt K mg) (J : CTx K mg C) (G_wrong_part : Cal P w K mg base CX0 5 "_wrong_part" (spWrong P w K)) (G_in_order : Cal P w K mg base CX0 1 "_in_order" (spOrder K)) (G_InvalidContents : ExnB P w K mg base 1 "InvalidContents" CI (spX CI "part"))
    (f : Addr) : BodyX P w K mg base ["self", "roles", "vouchers", "needed", "signers", "part", "role", "accepted", "used"] "Contents.__init__" s_Contents_init f 6 (spCInit P w K C CI) := by
  intro cdv A outer s H vs Q E hr h
  obtain ⟨x, dx, r, v, n, sg, H0, rfl, hx, s0, n0, h⟩ := h
  have hu1 : (A.deeper (envOfC "Contents.__init__" (defScope s_Contents_init) s.heap.objs.size f cdv)).units + 1 < cLine := Nat.lt_of_le_of_lt (Nat.add_le_add_left (by decide : 1 ≤ 64) _) hr.units
  refine ⟨_, (pss_cons (ps_set (i := 5) sc_Contents_init.nd rfl (Or.inl rfl) (pe_c G_wrong_part hr (by decide) rfl (pa_cons (pv 1) (pa_cons (pv 2) (pa_cons (pv 3) (pa_cons (pv 4) pa_nil))))))
      (pss_cons (ps_if (pt_cmpR op_notN (pv 5) pe_non (nomark _)) (pss_one (ps_raise rfl (takes_of rfl rfl rfl rfl) (pmk_b G_InvalidContents hr (by decide) rfl (pa_cons (pv 5) pa_nil)))) pss_nil)
      (pss_cons (ps_fld (pv 0) pe_dnewK rfl)
      (pss_cons (ps_for (passes_of rfl) rfl (pi_list (pe_c G_in_order hr (by decide) rfl (pa_cons (pe_callTy (call_list_dK rfl) (by rfl) T.b_list (by decide +kernel) (pa_cons (pv 1) pa_nil)) pa_nil))) (pg_name (i := 6) sc_Contents_init.nd rfl (Or.inl rfl)) (pss_cons (ps_asg (pe_dget hu1 (pv 1) (pv 6) (fun _ _ => rfl)) (pg_tup rfl (pgs_cons (pg_name (i := 7) sc_Contents_init.nd rfl (Or.inl rfl)) (pgs_cons (pg_name (i := 8) sc_Contents_init.nd rfl (Or.inl rfl)) pgs_nil))))
      (pss_one (ps_dput hu1 (pe_fld (pv 0) rfl) (pv 6) (pe_tup (pa_cons (pe_c G_in_order hr (by decide) rfl (pa_cons (pv 7) pa_nil)) (pa_cons (pv 8) pa_nil))) rfl))))
      (pss_cons (ps_fld (pv 0) (pe_c G_in_order hr (by decide) rfl (pa_cons (pv 2) pa_nil)) rfl)
      (pss_cons (ps_fld (pv 0) (pv 3) rfl)
      (pss_one (ps_fld (pv 0) (pe_c G_in_order hr (by decide) rfl (pa_cons (pe_ifExp (pt_cmpR op_isN (pv 4) pe_non (nomark _)) (pv 2) (pv 4)) pa_nil)) rfl)))))))), ?_⟩
  have npos : (0 : Nat) < 1000 := by decide
  have one : (1 : Nat) < 1000 := by decide
  have two : (2 : Nat) < 1000 := by decide
  have three : (3 : Nat) < 1000 := by decide
  rcases h with ⟨rows, lv, ne, so, R, q⟩ | ⟨y, ⟨f1, f2, f3, f4, i1, i2, i3, i4, ey, ny⟩, k⟩
  · obtain ⟨d0, rfl, ed0, ok⟩ := R.r_
    obtain ⟨rfl, lvk, lvb⟩ := R.v_
    obtain ⟨rfl, ne0, ne4⟩ := R.n_
    have i1 : RolesIs P w K H0 (.ref d0) true := R.rb ▸ roles_is (P := P) (w := w) ed0 R.n1 R.n3 R.nd ok
    have i2 : KeysIs K H0 (.ref lv.a) 4 true := lvb ▸ lvk.is 4
    have i4 : (sg = .non ∧ true = true) ∨ (sg ≠ .non ∧ KeysIs K H0 sg 4 true) := by
      rcases R.s_ with ⟨rfl, _⟩ | ⟨l, rfl, _, lk, lb⟩
      · exact .inl ⟨rfl, rfl⟩
      · exact .inr ⟨(fun z => nomatch z), lb ▸ lk.is 4⟩
    refine ⟨_, rfl, _, rfl, _, rfl, _, rfl, .ref d0, .ref lv.a, .int ne, sg, true, true, true, true, rfl, fun H' Q s q => i1 H' Q (s0.trans s) q, fun H' Q s q => i2 H' Q (s0.trans s) q, needs_is ne0 ne4, i4.imp id fun z => ⟨z.1, fun H' Q s q => z.2 H' Q (s0.trans s) q⟩, fun H1 s1 => ?_⟩
    refine ⟨_, rfl, rfl, _, rfl, iteF ?_⟩
    have s01 := s0.trans s1
    refine fun d nd => ⟨_, rfl, x, C, dx, [], rfl, by rw [upd_ne (ne_of_none (s1 _ _ hx) nd)]; exact s1 _ _ hx, J.cl, J.nu, npos, ?_⟩
    rw [show putF "_uses" (V.ref d) [] = [(("_uses" : Str), V.ref d)] from rfl]
    have nx1 : x ≠ d := ne_of_none (s1 _ _ hx) nd
    have nd0 : H0 d = none := s01.free nd
    have sA : Same H0 (upd (upd H1 d (.dK [])) x (.ins C dx [(("_uses" : Str), V.ref d)])) := same_mut (same_new' s01 nd) n0
    have xA : upd (upd H1 d (.dK [])) x (.ins C dx [(("_uses" : Str), V.ref d)]) x = some (.ins C dx [(("_uses" : Str), V.ref d)]) := upd_same
    have dA : upd (upd H1 d (.dK [])) x (.ins C dx [(("_uses" : Str), V.ref d)]) d = some (.dK []) := by rw [upd_ne nx1.symm, upd_same]
    generalize upd (upd H1 d (.dK [])) x (.ins C dx [(("_uses" : Str), V.ref d)]) = HA at *
    have mz : (dictOf rows).map (fun kv => kV kv.1) = (rows.map (·.z)).map V.str := by unfold dictOf; rw [List.map_map, List.map_map]; rfl
    refine ⟨_, rfl, d0, dictOf rows, rfl, sA _ _ ed0, fun q9 nq => ⟨q9, true, rows.map (·.z), rfl, ?_, by rw [List.length_map]; exact Nat.le_trans R.n3 (by decide), fun ys p H2 pm sy np s2 ep => ⟨p, rfl, ⟨_, SqL.of ep⟩, ?_⟩⟩⟩
    · rw [mz]; exact SqL.of upd_same
    have pl : (ys.length : Nat) ≤ 3 := by
      have z := pm.length_eq
      have z2 := onceW_len (rows.map (·.z))
      have z3 := R.n3
      rw [List.length_map] at z2
      omega
    have pm2 : ys.Perm (rows.map (·.z)) := pm.trans (once_perm R.nd)
    have ynd : ys.Nodup := pm2.nodup_iff.mpr R.nd
    have sB : Same H0 H2 := (same_new' sA nq).trans s2
    have xB : H2 x = some (.ins C dx [(("_uses" : Str), V.ref d)]) := s2 _ _ (by rw [upd_ne (ne_of_none xA nq)]; exact xA)
    have dB : H2 d = some (.dK []) := s2 _ _ (by rw [upd_ne (ne_of_none dA nq)]; exact dA)
    have np0 : H0 p = none := (same_new' sA nq).free np
    refine for_list (K := K) (a := p) (xs := ys.map V.str) (fun i sg' Hi => ∃ v6 v7 v8 : Option V, sg' = [some (.ref x), some (.ref d0), some (.ref lv.a), some (.int ne), some sg, some .non, v6, v7, v8] ∧ ∃ us : List Use, us.map (·.z) = ys.take i ∧ Hi x = some (.ins C dx [(("_uses" : Str), V.ref d)]) ∧ Hi d = some (.dK (dictU us)) ∧ Hi p = some (.lst (ys.map V.str)) ∧ Same H0 Hi ∧ ∀ r ∈ us, UAt (fun q => H0 q = none) Hi r ∧ ∃ q ∈ rows, q.z = r.z ∧ q.u = r.u ∧ r.ks = srtW q.ks)
      ⟨_, _, _, rfl, [], rfl, xB, dB, ep, sB, fun _ h => nomatch h⟩ (fun i sg' Hi _ ⟨_, _, _, _, us, _, _, _, e, _⟩ => SqL.of e) ?_ ?_
    · rintro i v sg' Hi hv ⟨v6, v7, v8, rfl, us, uz, xi, di, pi, si, ui⟩
      obtain ⟨z, ez, rfl⟩ : ∃ z, ys[i]? = some z ∧ v = .str z := by
        rw [List.getElem?_map] at hv
        cases c : ys[i]? with
        | none => rw [c] at hv; cases hv
        | some z => rw [c] at hv; exact ⟨z, rfl, (Option.some.inj hv).symm⟩
      have zin : z ∈ rows.map (·.z) := pm2.mem_iff.mp (List.mem_of_getElem? ez)
      obtain ⟨rq, rin, rfl⟩ := List.mem_map.mp zin
      have rok := ok rq rin
      have rB := List.all_eq_true.mp R.rb rq rin
      have kB : keysB (rq.ks.map V.str) 8 = true := by unfold rowB at rB; exact (Bool.and_eq_true_iff.mp (Bool.and_eq_true_iff.mp rB).2).1
      have k1 := keys_once kB
      have tk : ys.take (i + 1) = ys.take i ++ [rq.z] := by rw [List.take_succ, ez]; rfl
      have ztk : rq.z ∉ us.map (·.z) := by
        rw [uz]
        intro hm
        have nd2 : (ys.take (i + 1)).Nodup := ynd.sublist (List.take_sublist _ _)
        rw [tk, List.nodup_append] at nd2
        exact nd2.2.2 _ hm _ (List.mem_singleton.mpr rfl) rfl
      have ul : us.length ≤ 3 := by
        have z1 := congrArg List.length uz
        rw [List.length_map, List.length_take] at z1
        omega
      refine ⟨_, rfl, _, rfl, d0, .ref rq.t, rfl, by rw [← val_row rows rq R.nd rin]; exact DGet.k (k := Sum.inr rq.z) (si _ _ ed0), rq.t, _, rfl, SqT.of (si _ _ rok.at_), rfl, _, _, rfl, _, _, rfl, rfl, ?_⟩
      refine ⟨_, rfl, rq.a, rq.b, rq.ks, rfl, SqE.keep rok.sq si, by have := k1.2.1; omega, fun y2 p2 H3 pm3 so3 np2 s3 ep2 => ⟨_, rfl, by show 2 ≤ sizeLine; decide, fun t nt => ?_⟩⟩
      have s3' : Same Hi (upd H3 t (.tup [.ref p2, .str rq.u])) := same_new' s3 nt
      have xi2 := s3' _ _ xi
      have di2 := s3' _ _ di
      have pi2 := s3' _ _ pi
      have si2 := si.trans s3'
      have np3 : H0 p2 = none := si.free np2
      have nt3 : H0 t = none := si.free (s3.free nt)
      have ui2 : ∀ r ∈ us, UAt (fun q => H0 q = none) (upd H3 t (.tup [.ref p2, .str rq.u])) r := fun r hr => (ui r hr).1.put fun q o e _ => s3' _ _ e
      have et2 : upd H3 t (.tup [.ref p2, .str rq.u]) t = some (.tup [.ref p2, .str rq.u]) := upd_same
      have ep3 : upd H3 t (.tup [.ref p2, .str rq.u]) p2 = some (.lst (y2.map V.str)) := by rw [upd_ne (ne_of_none ep2 nt)]; exact ep2
      refine ⟨_, rfl, x, C, dx, _, _, rfl, xi2, J.cl, J.nu, rfl, _, rfl, d, _, rfl, DPut.k (k := Sum.inr rq.z) di2 (by unfold dictU; rw [List.length_map, sizeLine_eq]; omega), ?_⟩
      generalize upd H3 t (.tup [.ref p2, .str rq.u]) = H4 at *
      have eq : putK (dictU us) (Sum.inr rq.z) (V.ref t) = dictU (us ++ [⟨rq.z, t, p2, y2, rq.u⟩]) := put_use (r := ⟨rq.z, t, p2, y2, rq.u⟩) ztk
      rw [eq]
      have dx2 : x ≠ d := ne_of xi2 di2 (by intro z; cases z)
      have keepU : ∀ r, UAt (fun q => H0 q = none) H4 r → UAt (fun q => H0 q = none) (upd H4 d (.dK (dictU (us ++ [⟨rq.z, t, p2, y2, rq.u⟩])))) r := fun r h => h.put fun q o e k => by
        rw [upd_ne (ne_of e di2 (by rcases k with ⟨_, rfl⟩ | ⟨_, rfl⟩ <;> (intro z; cases z)))]; exact e
      refine ⟨_, _, _, rfl, us ++ [⟨rq.z, t, p2, y2, rq.u⟩], by rw [List.map_append, uz, tk]; rfl, by rw [upd_ne dx2]; exact xi2, upd_same, by rw [upd_ne (ne_of pi2 di2 (by intro z; cases z))]; exact pi2, same_mut si2 nd0, fun r hr => ?_⟩
      rcases List.mem_append.mp hr with hr | hr
      · exact ⟨keepU r (ui2 r hr), (ui r hr).2⟩
      · obtain rfl := List.mem_singleton.mp hr
        exact ⟨keepU _ ⟨et2, ep3, nt3, np3⟩, rq, rin, rfl, rfl, srt_eq so3 (pm3.trans (once_perm k1.1))⟩
    · rintro sg' Hi ⟨v6, v7, v8, rfl, us, uz, xi, di, pi, si, ui⟩
      rw [List.length_map, List.take_length] at uz
      have nl0 : ∀ {l : KL} {m : Int}, keysB (l.ks.map V.str) m = true → m ≤ 4 → l.ks.length ≤ 60 := fun h hm => by have := (keys_once h).2.1; omega
      -- what stands so far stays
      have go : ∀ H', Same H0 H' → (∀ q o, Hi q = some o → q ≠ x → H' q = some o) → H' d = some (.dK (dictU us)) ∧ ∀ r ∈ us, UAt (fun q => H0 q = none) H' r := fun H' _ k =>
        ⟨k _ _ di (ne_of di xi (by intro z; cases z)), fun r hr => (ui r hr).1.put fun q o e j => k _ _ e (ne_of e xi (by rcases j with ⟨_, rfl⟩ | ⟨_, rfl⟩ <;> (intro z; cases z)))⟩
      refine ⟨_, rfl, lv.a, lv.b, lv.ks, rfl, SqE.keep lvk.sq si, nl0 lvb (by decide), fun vs2 pv H5 pmv sov npv s5 epv => ⟨_, rfl, x, C, dx, _, rfl, s5 _ _ xi, J.cl, J.nv, one, ?_⟩⟩
      rw [put_v]
      have npv0 : H0 pv = none := si.free npv
      have s05 := si.trans s5
      have x6 : upd H5 x (.ins C dx [(("_uses" : Str), V.ref d), ("_vouchers", .ref pv)]) x = some (.ins C dx [(("_uses" : Str), V.ref d), ("_vouchers", .ref pv)]) := upd_same
      refine ⟨_, rfl, _, rfl, x, C, dx, _, rfl, x6, J.cl, J.nn, two, ?_⟩
      rw [put_n, upd_upd]
      have x7 : upd H5 x (.ins C dx [(("_uses" : Str), V.ref d), ("_vouchers", .ref pv), ("_needed", .int ne)]) x = some (.ins C dx [(("_uses" : Str), V.ref d), ("_vouchers", .ref pv), ("_needed", .int ne)]) := upd_same
      have s07 : Same H0 (upd H5 x (.ins C dx [(("_uses" : Str), V.ref d), ("_vouchers", .ref pv), ("_needed", .int ne)])) := same_mut s05 n0
      have k7 : ∀ q o, H5 q = some o → q ≠ x → upd H5 x (.ins C dx [(("_uses" : Str), V.ref d), ("_vouchers", .ref pv), ("_needed", .int ne)]) q = some o := fun q o e n => by rw [upd_ne n]; exact e
      generalize upd H5 x (.ins C dx [(("_uses" : Str), V.ref d), ("_vouchers", .ref pv), ("_needed", .int ne)]) = H7 at *
      have pvx : pv ≠ x := fun e => by rw [e, xi] at npv; cases npv
      -- the end, over the signers
      have fin : ∀ (sk : List Str) (ys : List Str) (ps : Addr) (H8 : Hp), keysB (sk.map V.str) 4 = true → sk = sgOf lv so → ys.Perm (onceW sk) → sortedS ys = true → H7 ps = none → Same H7 H8 → H8 ps = some (.lst (ys.map V.str)) →
          Q .non (upd H8 x (.ins C dx [(("_uses" : Str), V.ref d), ("_vouchers", .ref pv), ("_needed", .int ne), ("_signers", .ref ps)])) := by
        intro sk ys2 ps H8 kb es pms sos nps s8 eps
        have k8 : ∀ q o, Hi q = some o → q ≠ x → upd H8 x (.ins C dx [(("_uses" : Str), V.ref d), ("_vouchers", .ref pv), ("_needed", .int ne), ("_signers", .ref ps)]) q = some o := fun q o e n => by rw [upd_ne n]; exact s8 _ _ (k7 _ _ (s5 _ _ e) n)
        have psx : ps ≠ x := fun e => by rw [e, x7] at nps; cases nps
        have s08 := same_mut (o := .ins C dx [(("_uses" : Str), V.ref d), ("_vouchers", .ref pv), ("_needed", .int ne), ("_signers", .ref ps)]) (s07.trans s8) n0
        obtain ⟨g1, g2⟩ := go _ s08 k8
        have oV := keys_once lvb
        have oS := keys_once kb
        have evs : vs2 = srtW lv.ks := srt_eq sov (pmv.trans (once_perm oV.1))
        have ess : ys2 = srtW sk := srt_eq sos (pms.trans (once_perm oS.1))
        have ezs : us.map (·.z) = srtW (rows.map (·.z)) := uz.trans (srt_eq sy pm2)
        have ul : us.length = rows.length := by
          have z := congrArg List.length ezs
          rw [List.length_map, srtW_len, List.length_map] at z
          exact z
        refine q _ ⟨us, vs2, ne, ys2⟩ ⟨⟨dx, d, pv, ps, upd_same, g1, ?_, ?_, n0, nd0, npv0, s07.free nps⟩, g2⟩ ⟨ezs, fun r hr => (ui r hr).2, evs, rfl, ess.trans (by rw [es])⟩ ?_ s08
        · rw [upd_ne pvx]; exact s8 _ _ (k7 _ _ epv pvx)
        · rw [upd_ne psx]; exact eps
        · refine ⟨by show 1 ≤ us.length; rw [ul]; exact R.n1, by show us.length ≤ 3; rw [ul]; exact R.n3, ?_, ?_, ?_, evs ▸ ksOk_srt lvb, ess ▸ ksOk_srt kb, ne0, ne4⟩
          · show (us.map (·.z)).Nodup
            rw [ezs]; exact srtW_nodup.mpr R.nd
          · show sortedS (us.map (·.z)) = true
            rw [ezs]; exact srtW_sorted _
          · intro r hr
            obtain ⟨_, rq, rin, e1, e2, e3⟩ := ui r hr
            have rB := List.all_eq_true.mp R.rb rq rin
            unfold rowB at rB
            obtain ⟨b1, b2⟩ := Bool.and_eq_true_iff.mp rB
            obtain ⟨b3, b4⟩ := Bool.and_eq_true_iff.mp b2
            exact ⟨e3 ▸ ksOk_srt b3, e1 ▸ b1, e2 ▸ b4⟩
      rcases R.s_ with ⟨rfl, rfl⟩ | ⟨l, rfl, rfl, lk, lb⟩
      · refine ⟨_, rfl, rfl, _, rfl, iteT ⟨_, rfl, lv.a, lv.b, lv.ks, rfl, SqE.keep lvk.sq s07, nl0 lvb (by decide), fun ys2 ps H8 pms sos nps s8 eps => ⟨_, rfl, x, C, dx, _, rfl, s8 _ _ x7, J.cl, J.ns, three, ?_⟩⟩⟩
        rw [put_s]
        exact fin lv.ks ys2 ps H8 lvb rfl pms sos nps s8 eps
      · refine ⟨_, rfl, rfl, _, rfl, iteF ⟨_, rfl, l.a, l.b, l.ks, rfl, SqE.keep lk.sq s07, nl0 lb (by decide), fun ys2 ps H8 pms sos nps s8 eps => ⟨_, rfl, x, C, dx, _, rfl, s8 _ _ x7, J.cl, J.ns, three, ?_⟩⟩⟩
        rw [put_s]
        exact fin l.ks ys2 ps H8 lb rfl pms sos nps s8 eps
  · refine ⟨_, rfl, _, rfl, _, rfl, _, rfl, r, v, n, sg, f1, f2, f3, f4, rfl, fun H' Q s q => i1 H' Q (s0.trans s) q, fun H' Q s q => i2 H' Q (s0.trans s) q, i3.keep s0, i4.imp id fun z => ⟨z.1, fun H' Q s q => z.2 H' Q (s0.trans s) q⟩, fun H1 s1 => ?_⟩
    have s01 := s0.trans s1
    refine ⟨_, rfl, rfl, _, rfl, ?_⟩
    rw [ey, decide_eq_false ny]
    exact iteT ⟨_, rfl, x_read fun d nd => k d _ (s01.free nd) (same_new' s01 nd) upd_same⟩
end

end K08

namespace K08
open PySem PySem.Spec PyProof.Rows L2 Jg
local macro_rules | `(tactic| walk_at "rd1") => `(tactic| (first
  | refine ⟨_, rfl, ?_⟩
  | refine ⟨_, _, rfl, rfl, ?_⟩
  | refine ⟨_, _, rfl, ?_⟩
  | refine ⟨rfl, ?_⟩
  | (refine ⟨show (0 : Int) < _ by omega, ?_⟩)
  | (refine ⟨Or.inl ⟨by omega, by omega⟩, ?_⟩)
  | (refine ⟨Or.inr ⟨by omega, by omega⟩, ?_⟩)
  | (refine ⟨(⟨by decide, by decide, by decide⟩ : CPow _ _), ?_⟩)
  | refine Or.inl ⟨_, rfl, ?_⟩
  | refine Or.inr ⟨_, rfl, ?_⟩
  | fail "rd"))
local macro_rules | `(tactic| walk_at "rd") => `(tactic| repeat' walk_at "rd1")


/-! ### draws -/
theorem seq_upd {K : PySem.W.Frag} {H : Hp} {l p : Addr} {xs : List V} {o : HO} (h : SqL K H l xs) (n : l ≠ p) : SqL K (upd H p o) l xs := by
  rcases h with (h | ⟨z, h⟩) | h
  · exact .inl (.inl (by rw [upd_ne n]; exact h))
  · exact .inl (.inr ⟨z, by rw [upd_ne n]; exact h⟩)
  · exact .inr h
def spStream (K : PySem.W.Frag) : Sp := fun vs H Q _ => ∃ (a : Addr) (ns : List Int) (k : Nat), vs = [.ref a, .int k] ∧ SqL K H a (ns.map V.int) ∧ k ≤ 1000 ∧
  ∀ p x y, H p = none → 0 ≤ x → Q (.ref p) (upd H p (.lst [.int x, .int y]))
def spDraw : Sp := fun vs H Q _ => ∃ p a b n, vs = [.ref p, .int n] ∧ H p = some (.lst [.int a, .int b]) ∧ 0 ≤ a ∧ 0 < n ∧ n.natAbs < 2 ^ 300 ∧
  ∀ v a' b', 0 ≤ v → v < n → 0 ≤ a' → Q (.int v) (upd H p (.lst [.int a', .int b']))
/-- from a list, or a sign of a text -/
def spChoose (K : PySem.W.Frag) : Sp := fun vs H Q _ => ∃ p y a b, vs = [.ref p, y] ∧ H p = some (.lst [.int a, .int b]) ∧ 0 ≤ a ∧
  ((∃ l xs, y = .ref l ∧ SqL K H l xs ∧ l ≠ p ∧ 0 < xs.length ∧ xs.length < 1000 ∧ ∀ (i : Nat) (v : V) (a' b' : Int), xs[i]? = some v → 0 ≤ a' → Q v (upd H p (.lst [.int a', .int b']))) ∨
   (∃ z : Str, y = .str z ∧ 0 < z.length ∧ z.length < 1000 ∧ ∀ (c : Nat) (a' b' : Int), c ∈ z.cps.toList → 0 ≤ a' → Q (.str ⟨#[c]⟩) (upd H p (.lst [.int a', .int b']))))
theorem i1000 {n : Int} (h0 : 0 ≤ n) (h : n < 1000) : n.natAbs < 2 ^ 300 := by
  have : n.natAbs < 1024 := by omega
  exact Nat.lt_of_lt_of_le this (by decide +kernel)
theorem SameB.refl (p : Addr) (H : Hp) : SameB p H H := fun _ _ e _ => e
theorem SameB.trans {p : Addr} {H H1 H2 : Hp} (a : SameB p H H1) (b : SameB p H1 H2) : SameB p H H2 := fun q o e n => b q o (a q o e n) n
theorem SameB.of {p : Addr} {H H1 : Hp} (a : Same H H1) : SameB p H H1 := fun q o e _ => a q o e
theorem SameB.new {p l : Addr} {H H1 : Hp} {o : HO} (a : SameB p H H1) (h : H1 l = none) : SameB p H (upd H1 l o) := fun q u e n => by
  have z := a q u e n
  rw [upd_ne (ne_of_none z h)]
  exact z
theorem SameB.mut {p : Addr} {H H1 : Hp} {o : HO} (a : SameB p H H1) : SameB p H (upd H1 p o) := fun q u e n => by
  rw [upd_ne n]
  exact a q u e n
theorem SameB.out {p : Addr} {H H1 H2 : Hp} (a : Same H H1) (b : SameB p H1 H2) (n : H p = none) : Same H H2 := fun q o e => b q o (a q o e) (ne_of_none e n)
def StA (H : Hp) (p : Addr) : Prop := ∃ a b, H p = some (.lst [.int a, .int b]) ∧ 0 ≤ a
theorem StA.ne {H : Hp} {p l : Addr} (h : StA H p) (n : H l = none) : l ≠ p := fun z => by
  obtain ⟨a, b, e, _⟩ := h
  rw [z, e] at n
  cases n
theorem ne_dec {x y : Int} : decide (V.int x = V.int y) = decide (x = y) := by
  by_cases c : x = y
  · rw [c, decide_eq_true rfl, decide_eq_true rfl]
  · rw [decide_eq_false c, decide_eq_false fun z => c (V.int.inj z)]
theorem p30 : (10 : Int) ^ (30 : Int).toNat = 1000000000000000000000000000000 := by decide +kernel
theorem p20 : (10 : Int) ^ (20 : Int).toNat = 100000000000000000000 := by decide +kernel
theorem p9 : (10 : Int) ^ (9 : Int).toNat = 1000000000 := by decide +kernel
theorem SameB.free {p l : Addr} {H H' : Hp} (s : SameB p H H') (n : H' l = none) (np : l ≠ p) : H l = none := by
  cases e : H l with
  | none => rfl
  | some o =>
    have z := s l o e np
    rw [n] at z; cases z
/-! ### letters -/
def AZ (z : Str) : Prop := ∀ c ∈ z.cps.toList, 97 ≤ c ∧ c ≤ 122
theorem az_app {a b : Str} (h1 : AZ a) (h2 : AZ b) : AZ (a ++ b) := fun c h => by
  rw [Str.cps_append, Array.toList_append, List.mem_append] at h
  exact h.elim (h1 c) (h2 c)
theorem az_one {c : Nat} (h : 97 ≤ c ∧ c ≤ 122) : AZ ⟨#[c]⟩ := fun d hd => by
  have e : d = c := by simpa using hd
  rw [e]; exact h
def letters : Str := "abcdefghijklmnopqrstuvwxyz"
theorem letters_az : AZ letters := by
  have h : ∀ c ∈ letters.cps.toList, 97 ≤ c ∧ c ≤ 122 := by decide +kernel
  exact h
theorem letters_len : letters.length = 26 := by decide +kernel
/-- single signs, joined -/
def Ones (ys : List Str) : Prop := ∀ y ∈ ys, AZ y ∧ y.length = 1
theorem join_az : ∀ ys : List Str, Ones ys → AZ (Str.join Str.empty ys) ∧ (Str.join Str.empty ys).length = ys.length
  | [], _ => ⟨(fun c h => by cases h), rfl⟩
  | [x], h => ⟨(h x (by simp)).1, (h x (by simp)).2⟩
  | x :: y :: r, h => by
    obtain ⟨h1, h2⟩ := join_az (y :: r) fun z hz => h z (List.mem_cons_of_mem _ hz)
    have e : Str.join Str.empty (x :: y :: r) = x ++ Str.join Str.empty (y :: r) := by
      show x ++ Str.empty ++ Str.join Str.empty (y :: r) = _
      rw [Str.append_empty]
    rw [e]
    refine ⟨az_app (h x (by simp)).1 h1, ?_⟩
    rw [Str.length_append, h2, (h x (by simp)).2, List.length_cons, List.length_cons, List.length_cons]
    omega
theorem ones_sum : ∀ ys : List Str, Ones ys → (ys.map (·.length)).sum = ys.length
  | [], _ => rfl
  | x :: r, h => by
    rw [List.map_cons, List.sum_cons, ones_sum r fun z hz => h z (List.mem_cons_of_mem _ hz), (h x (by simp)).2, List.length_cons]
    omega
theorem az_sign : ∀ c : Nat, 97 ≤ c → c ≤ 122 → (Unicode.isAlpha c && (Unicode.isLower c && (!Unicode.isUpper c && !Unicode.isTitle c))) = true := by
  intro c h1 h2
  have h : ∀ d ∈ (List.range 26).map (97 + ·), (Unicode.isAlpha d && (Unicode.isLower d && (!Unicode.isUpper d && !Unicode.isTitle d))) = true := by decide +kernel
  exact h c (List.mem_map.mpr ⟨c - 97, List.mem_range.mpr (by omega), by show 97 + (c - 97) = c; omega⟩)
theorem az_all {z : Str} {p : Nat → Bool} (h : AZ z) (hp : ∀ c, 97 ≤ c → c ≤ 122 → p c = true) : z.cps.all p = true := by
  rw [← Array.all_toList]
  exact List.all_eq_true.mpr fun c hc => hp c (h c hc).1 (h c hc).2
theorem az_word {z : Str} (h : AZ z) (h1 : 1 ≤ z.length) (h8 : z.length ≤ 8) : wordB z = true := by
  have pos : 0 < z.cps.toList.length := by
    have e : z.length = z.cps.size := rfl
    rw [Array.length_toList]; omega
  have ha : PySem.Txt.isascii z = true := az_all h fun c _ _ => decide_eq_true (by omega)
  have hb : PySem.Txt.isalpha z = true := by
    unfold PySem.Txt.isalpha
    rw [az_all h fun c h1 h2 => (Bool.and_eq_true_iff.mp (az_sign c h1 h2)).1, Bool.and_true]
    exact decide_eq_true (by omega)
  have hc : PySem.Txt.islower z = true := by
    unfold PySem.Txt.islower
    have k1 : z.cps.any Unicode.isLower = true := by
      rw [← Array.any_toList]
      have m : z.cps.toList[0] ∈ z.cps.toList := List.getElem_mem pos
      exact List.any_eq_true.mpr ⟨_, m, (Bool.and_eq_true_iff.mp (Bool.and_eq_true_iff.mp (az_sign _ (h _ m).1 (h _ m).2)).2).1⟩
    have k2 : (z.cps.any fun c => Unicode.isUpper c || Unicode.isTitle c) = false := by
      rw [← Array.any_toList, List.any_eq_false]
      intro c hc
      have z4 := (Bool.and_eq_true_iff.mp (Bool.and_eq_true_iff.mp (az_sign _ (h _ hc).1 (h _ hc).2)).2).2
      obtain ⟨u1, u2⟩ := Bool.and_eq_true_iff.mp z4
      rw [Bool.not_eq_true'] at u1 u2
      rw [u1, u2]; simp
    rw [k1, k2]; rfl
  unfold wordB
  rw [decide_eq_true h8, ha, hb, hc]; rfl
/-- a word -/
def Wd (z : Str) : Prop := AZ z ∧ 1 ≤ z.length ∧ z.length ≤ 7
theorem Wd.ok {z : Str} (h : Wd z) : z.length ≤ sizeLine ∧ wordB z = true := ⟨by rw [sizeLine_eq]; have := h.2.2; omega, az_word h.1 h.2.1 (Nat.le_succ_of_le h.2.2)⟩
/-- the letter at a step -/
def stepC (f st : Int) (i : Nat) : Nat := 97 + ((f + st * (0 + (i : Int))) % 26).toNat
theorem stepC_inj {f st : Int} (h : st = 1 ∨ st = 3 ∨ st = 5 ∨ st = 7 ∨ st = 9 ∨ st = 11 ∨ st = 15 ∨ st = 17 ∨ st = 19 ∨ st = 21 ∨ st = 23 ∨ st = 25) {i j : Nat} (hi : i < 26) (hj : j < 26) (e : stepC f st i = stepC f st j) : i = j := by
  unfold stepC at e
  rcases h with rfl | rfl | rfl | rfl | rfl | rfl | rfl | rfl | rfl | rfl | rfl | rfl <;> omega
theorem mid_inj {a b : Str} {c d : Nat} (e : a ++ ⟨#[c]⟩ ++ b = a ++ ⟨#[d]⟩ ++ b) : c = d := by
  have z := congrArg (fun s : Str => s.cps.toList) e
  simp only [Str.cps_append, Array.toList_append] at z
  have z2 := List.append_cancel_right z
  have z3 := List.append_cancel_left z2
  simpa using z3
theorem nodup_steps {f st : Int} {hd tl : Str} (h : st = 1 ∨ st = 3 ∨ st = 5 ∨ st = 7 ∨ st = 9 ∨ st = 11 ∨ st = 15 ∨ st = 17 ∨ st = 19 ∨ st = 21 ∨ st = 23 ∨ st = 25) {n : Nat} (hn : n ≤ 26) : ((List.range n).map fun i => hd ++ (⟨#[stepC f st i]⟩ : Str) ++ tl).Nodup := by
  unfold List.Nodup
  rw [List.pairwise_map]
  refine List.Pairwise.imp_of_mem (fun {a b} ha hb lt e => ?_) List.pairwise_lt_range
  have z := stepC_inj h (by have := List.mem_range.mp ha; omega) (by have := List.mem_range.mp hb; omega) (mid_inj e)
  omega
def spWords : Sp := fun vs H Q _ => ∃ p n, vs = [.ref p, .int n] ∧ 0 ≤ n ∧ n ≤ 26 ∧ StA H p ∧ ∀ (l : Addr) (ws : List Str) (H' : Hp), H l = none → l ≠ p → ws.length = n.toNat → (∀ z ∈ ws, Wd z) → ws.Nodup → H' l = some (.lst (ws.map V.str)) → StA H' p → SameB p H H' → Q (.ref l) H'
section
variable {P : Program} {w : World} {K : PySem.W.Frag} {mg : Str → Option Value} {base : Heap}
abbrev s_law_stream : Stmt := top 23
theorem sc_law_stream : FnScope ["script", "k", "cell", "size", "mixed"] ["script", "k"] (defScope s_law_stream) := ⟨rfl, rfl, rfl, by decide +kernel, rfl, by decide +kernel, by decide +kernel⟩
theorem ok_stream (D : DefK K mg "_law_stream" s_law_stream) (T : Txt K mg) : Cal P w K mg base CX0 1 "_law_stream" (spStream K) := by
  refine D.cal sc_law_stream (fun _ _ _ _ _ _ us hl => match us, hl with | [_, _], _ => rfl) (fun vs H Q E h => ?_) fun f cdv A outer s H vs Q E hr h => ?_
  · obtain ⟨a, ns, k, rfl, _⟩ := h; rfl
  · obtain ⟨a, ns, k, rfl, hS, hk, q⟩ := h
    refine ⟨_, (pss_cons (ps_set (i := 2) sc_law_stream.nd rfl (Or.inl rfl) pe_int)
      (pss_cons (ps_if (pt_cmpR op_lt (pv 1) (pe_callB call_len_seq (by rfl) T.b_len (by decide +kernel) (pa_cons (pv 0) pa_nil)) (nomark _)) (pss_one (ps_set (i := 2) sc_law_stream.nd rfl (Or.inl rfl) (pe_ix (r := rIxL K) ix_list (pv 0) (pv 1) (fun _ _ => rfl)))) pss_nil)
      (pss_cons (ps_set (i := 3) sc_law_stream.nd rfl (Or.inl rfl) (pe_callB (call_max2 rfl) (by rfl) T.b_max (by decide +kernel) (pa_cons (pv 2) (pa_cons (pe_op op_sub (pe_un un_neg pe_int) (pv 2)) pa_nil))))
      (pss_cons (ps_set (i := 4) sc_law_stream.nd rfl (Or.inl rfl) (pe_op op_mod (pe_op op_mul (pe_op op_add (pe_op op_add (pe_op op_add (pe_op op_mod (pv 3) pe_int) (pe_op op_mul (pe_op op_mul pe_int (pv 1)) (pv 1))) (pe_op op_mul pe_int (pv 1))) pe_int) pe_int) pe_int))
      (pss_one (ps_ret (pe_lst (pa_cons (pe_op op_mul (pv 3) (pe_callTy call_int1 (by rfl) T.b_int (by decide +kernel) (pa_cons (pe_cmpR op_ge (pv 3) (pe_op op_pow pe_int pe_int) (nomark _)) pa_nil))) (pa_cons (pv 4) pa_nil))))))))), ?_⟩
    have kb : -(2 ^ 64 : Int) < (k : Int) ∧ (k : Int) < 2 ^ 64 := by omega
    refine ⟨_, rfl, _, rfl, a, _, rfl, .inl hS, _, _, rfl, rfl, _, rfl, ?_⟩
    rw [List.length_map]
    by_cases c : (k : Int) < (ns.length : Int)
    · rw [decide_eq_true c]
      have at_ : (ns.map V.int)[k]? = some (V.int (ns[k]'(by omega))) := by rw [List.getElem?_map, List.getElem?_eq_getElem (by omega)]; rfl
      refine iteT ⟨_, rfl, _, rfl, a, _, _, _, rfl, rfl, hS, atI_nat at_, ?_⟩
      walk_at "rd"
      exact ⟨by show 2 ≤ sizeLine; decide, fun p hp => q p _ _ hp (Int.mul_nonneg (by split <;> omega) (by split <;> omega))⟩
    · rw [decide_eq_false c]
      refine iteF ?_
      walk_at "rd"
      exact ⟨by show 2 ≤ sizeLine; decide, fun p hp => q p _ _ hp (Int.mul_nonneg (by split <;> omega) (by split <;> omega))⟩
abbrev s_law_draw : Stmt := top 24
theorem sc_law_draw : FnScope ["stream", "count", "result"] ["stream", "count"] (defScope s_law_draw) := ⟨rfl, rfl, rfl, by decide +kernel, rfl, by decide +kernel, by decide +kernel⟩
theorem ok_draw (D : DefK K mg "_law_draw" s_law_draw) : Cal P w K mg base CX0 1 "_law_draw" spDraw := by
  refine D.cal sc_law_draw (fun _ _ _ _ _ _ us hl => match us, hl with | [_, _], _ => rfl) (fun vs H Q E h => ?_) fun f cdv A outer s H vs Q E hr h => ?_
  · obtain ⟨p, a, b, n, rfl, _⟩ := h; rfl
  · obtain ⟨p, a, b, n, rfl, hp, ha, hn, hb, q⟩ := h
    have at0 : ∀ x y : Int, atI [V.int x, V.int y] 0 = some (V.int x) := fun _ _ => atI_nat (j := 0) rfl
    have at1 : ∀ x y : Int, atI [V.int x, V.int y] 1 = some (V.int y) := fun _ _ => atI_nat (j := 1) rfl
    have hw : CDivW a n := wide_div hn hb (by decide) (by decide)
    refine ⟨_, (pss_cons (ps_if (pt_cmpR op_gt (pe_ix (r := rIxL K) ix_list (pv 0) pe_int (fun _ _ => rfl)) pe_int (nomark _)) (pss_cons (ps_set (i := 2) sc_law_draw.nd rfl (Or.inl rfl) (pe_op op_mod (pe_ix (r := rIxL K) ix_list (pv 0) pe_int (fun _ _ => rfl)) (pv 1)))
      (pss_cons (ps_asg (pe_op op_fdivW (pe_ix (r := rIxL K) ix_list (pv 0) pe_int (fun _ _ => rfl)) (pv 1)) (pg_sub (pv 0) pe_int set_list))
      (pss_one (ps_ret (pv 2))))) pss_nil)
      (pss_cons (ps_asg (pe_op op_mod (pe_op op_add (pe_op op_mul (pe_ix (r := rIxL K) ix_list (pv 0) pe_int (fun _ _ => rfl)) pe_int) pe_int) pe_int) (pg_sub (pv 0) pe_int set_list))
      (pss_one (ps_ret (pe_op op_mod (pe_op op_fdiv (pe_op op_mod (pe_op op_mul (pe_ix (r := rIxL K) ix_list (pv 0) pe_int (fun _ _ => rfl)) (pe_ix (r := rIxL K) ix_list (pv 0) pe_int (fun _ _ => rfl))) pe_int) pe_int) (pv 1)))))), ?_⟩
    refine ⟨_, rfl, p, _, _, _, rfl, rfl, SqL.of hp, at0 _ _, _, _, rfl, rfl, _, rfl, ?_⟩
    by_cases c : 0 < a
    · rw [decide_eq_true c]
      refine iteT ⟨_, rfl, p, _, _, _, rfl, rfl, SqL.of hp, at0 _ _, _, rfl, _, _, rfl, rfl, hn, ?_⟩
      refine ⟨_, rfl, p, _, _, _, rfl, rfl, SqL.of hp, at0 _ _, _, rfl, _, _, rfl, rfl, hw, ?_⟩
      refine ⟨_, rfl, p, _, _, 0, rfl, rfl, hp, rfl, ?_⟩
      refine ⟨_, rfl, q _ _ _ (Int.emod_nonneg _ (by omega)) (Int.emod_lt_of_pos _ hn) (Int.ediv_nonneg ha (by omega))⟩
    · rw [decide_eq_false c]
      refine iteF ⟨_, rfl, p, _, _, _, rfl, rfl, SqL.of hp, at1 _ _, ?_⟩
      walk_at "rd"
      refine ⟨p, _, _, 1, rfl, rfl, hp, rfl, ?_⟩
      refine ⟨_, rfl, p, _, _, _, rfl, rfl, SqL.of upd_same, at1 _ _, _, rfl, p, _, _, _, rfl, rfl, SqL.of upd_same, at1 _ _, _, _, rfl, rfl, ?_⟩
      have m1 := Int.emod_nonneg (b * 39373 + 7) (show (2147483647 : Int) ≠ 0 by decide)
      have m2 := Int.emod_lt_of_pos (b * 39373 + 7) (show (0 : Int) < 2147483647 by decide)
      refine ⟨.inl ⟨by omega, by omega⟩, _, _, rfl, rfl, show (0 : Int) < _ by decide, _, _, rfl, rfl, ⟨by decide, by decide⟩, _, rfl, _, _, rfl, rfl, hn, ?_⟩
      exact q _ _ _ (Int.emod_nonneg _ (by omega)) (Int.emod_lt_of_pos _ hn) ha
abbrev s_law_choose : Stmt := top 25
theorem sc_law_choose : FnScope ["stream", "items"] ["stream", "items"] (defScope s_law_choose) := ⟨rfl, rfl, rfl, by decide +kernel, rfl, by decide +kernel, by decide +kernel⟩
theorem ok_choose (D : DefK K mg "_law_choose" s_law_choose) (T : Txt K mg) (G_law_draw : Cal P w K mg base CX0 1 "_law_draw" spDraw) : Cal P w K mg base CX0 2 "_law_choose" (spChoose K) := by
  refine D.cal sc_law_choose (fun _ _ _ _ _ _ us hl => match us, hl with | [_, _], _ => rfl) (fun vs H Q E h => ?_) fun f cdv A outer s H vs Q E hr h => ?_
  · obtain ⟨p, l, a, b, rfl, _⟩ := h; rfl
  · obtain ⟨p, y, a, b, rfl, hp, ha, h⟩ := h
    refine ⟨_, (pss_one (ps_ret (pe_ix (r := rIx K) ix_seq (pv 1) (pe_c G_law_draw hr (by decide) rfl (pa_cons (pv 0) (pa_cons (pe_callB call_len (by rfl) T.b_len (by decide +kernel) (pa_cons (pv 1) pa_nil)) pa_nil))) (fun _ _ => rfl)))), ?_⟩
    rcases h with ⟨l, xs, rfl, hl, n, h0, h1, q⟩ | ⟨z, rfl, h0, h1, q⟩
    · refine ⟨_, rfl, _, rfl, _, rfl, .ref l, xs.length, rfl, .inl ⟨xs, hl, rfl⟩, p, a, b, _, rfl, hp, ha, by omega, i1000 (by omega) (by omega), fun v a' b' v0 v1 a0 => ?_⟩
      have hi : v.toNat < xs.length := by omega
      have ev : xs[v.toNat]? = some (xs[v.toNat]'hi) := List.getElem?_eq_getElem hi
      have ev2 : v = ((v.toNat : Nat) : Int) := by omega
      exact .inl ⟨l, xs, v, _, rfl, rfl, seq_upd hl n, at_of ev2 ev, q v.toNat _ a' b' ev a0⟩
    · have hz : z.length ≤ sizeLine := by rw [sizeLine_eq]; omega
      refine ⟨_, rfl, _, rfl, _, rfl, .str z, z.length, rfl, ⟨hz, rfl⟩, p, a, b, _, rfl, hp, ha, by omega, i1000 (by omega) (by omega), fun v a' b' v0 v1 a0 => ?_⟩
      obtain ⟨j, rfl⟩ : ∃ j : Nat, v = (j : Int) := ⟨v.toNat, by omega⟩
      have hi : j < z.cps.toList.length := by
        have e : z.length = z.cps.size := rfl
        rw [Array.length_toList]; omega
      have ev : z.cps.toList[j]? = some (z.cps.toList[j]'hi) := List.getElem?_eq_getElem hi
      exact .inr (.inr ⟨z, _, _, rfl, rfl, hz, atI_nat ev, q _ a' b' (List.getElem_mem hi) a0⟩)
abbrev s_law_words : Stmt := top 27
theorem sc_law_words : FnScope ["stream", "count", "letters", "head", "tail", "first", "step", "at", "turn"] ["stream", "count"] (defScope s_law_words) := ⟨rfl, rfl, rfl, by decide +kernel, rfl, by decide +kernel, by decide +kernel⟩
theorem ok_words (D : DefK K mg "_law_words" s_law_words) (T : Txt K mg) (G_law_draw : Cal P w K mg base CX0 1 "_law_draw" spDraw) (G_law_choose : Cal P w K mg base CX0 2 "_law_choose" (spChoose K)) : Cal P w K mg base CX0 3 "_law_words" spWords := by
  refine D.cal sc_law_words (fun _ _ _ _ _ _ us hl => match us, hl with | [_, _], _ => rfl) (fun vs H Q E h => ?_) fun f cdv A outer s H vs Q E hr h => ?_
  · obtain ⟨p, n, rfl, _⟩ := h; rfl
  · obtain ⟨p, n, rfl, n0, n9, ⟨a, b, hp, ha⟩, k⟩ := h
    refine ⟨_, (pss_cons (ps_set (i := 2) sc_law_words.nd rfl (Or.inr rfl) pe_str)
      (pss_cons (ps_asg (pe_tup (pa_cons (pe_c G_law_draw hr (by decide) rfl (pa_cons (pv 0) (pa_cons pe_int pa_nil))) (pa_cons (pe_c G_law_choose hr (by decide) rfl (pa_cons (pv 0) (pa_cons (pe_lst (pa_cons pe_int (pa_cons pe_int (pa_cons pe_int (pa_cons pe_int (pa_cons pe_int (pa_cons pe_int (pa_cons pe_int (pa_cons pe_int (pa_cons pe_int (pa_cons pe_int (pa_cons pe_int (pa_cons pe_int pa_nil))))))))))))) pa_nil))) pa_nil))) (pg_tup rfl (pgs_cons (pg_name (i := 5) sc_law_words.nd rfl (Or.inr rfl)) (pgs_cons (pg_name (i := 6) sc_law_words.nd rfl (Or.inr rfl)) pgs_nil))))
      (pss_cons (ps_set (i := 3) sc_law_words.nd rfl (Or.inr rfl) (pe_join pe_str (pe_lc (own := [("turn", 8)]) (g := gName 8) (by rfl) sc_law_words.nd (pi_range1 (by rfl) T.b_range (pa_cons (pe_c G_law_draw hr (by decide) rfl (pa_cons (pv 0) (pa_cons pe_int pa_nil))) pa_nil)) (blkOk_by (own := [("turn", 8)]) (N := ["stream", "count", "letters", "head", "tail", "first", "step", "at", "turn"]) (sc := defScope s_law_words) (by decide +kernel)) (fun _ _ _ _ _ => pg_name (i := 8) sc_law_words.nd rfl (Or.inl rfl)) (fun _ _ _ _ _ => pts_nil) (fun _ _ _ _ _ => (pe_c G_law_choose hr (by decide) rfl (pa_cons (pv 0) (pa_cons (pv 2) pa_nil)))))))
      (pss_cons (ps_set (i := 4) sc_law_words.nd rfl (Or.inr rfl) (pe_join pe_str (pe_lc (own := [("turn", 8)]) (g := gName 8) (by rfl) sc_law_words.nd (pi_range1 (by rfl) T.b_range (pa_cons (pe_c G_law_draw hr (by decide) rfl (pa_cons (pv 0) (pa_cons pe_int pa_nil))) pa_nil)) (blkOk_by (own := [("turn", 8)]) (N := ["stream", "count", "letters", "head", "tail", "first", "step", "at", "turn"]) (sc := defScope s_law_words) (by decide +kernel)) (fun _ _ _ _ _ => pg_name (i := 8) sc_law_words.nd rfl (Or.inl rfl)) (fun _ _ _ _ _ => pts_nil) (fun _ _ _ _ _ => (pe_c G_law_choose hr (by decide) rfl (pa_cons (pv 0) (pa_cons (pv 2) pa_nil)))))))
      (pss_one (ps_ret (pe_lc (own := [("at", 7)]) (g := gName 7) (by rfl) sc_law_words.nd (pi_range1 (by rfl) T.b_range (pa_cons (pv 1) pa_nil)) (blkOk_by (own := [("at", 7)]) (N := ["stream", "count", "letters", "head", "tail", "first", "step", "at", "turn"]) (sc := defScope s_law_words) (by decide +kernel)) (fun _ _ _ _ _ => pg_name (i := 7) sc_law_words.nd rfl (Or.inl rfl)) (fun _ _ _ _ _ => pts_nil) (fun _ _ _ _ _ => (pe_op op_add_str (pe_op op_add_str (pv 3) (pe_ix (r := rIxS) ix_str (pv 2) (pe_op op_mod (pe_op op_add (pv 5) (pe_op op_mul (pv 6) (pv 7))) pe_int) (fun _ _ => rfl))) (pv 4)))))))))), ?_⟩
    refine ⟨_, rfl, p, a, b, 26, rfl, hp, ha, by decide, by decide +kernel, fun f1 a1 b1 f0 f26 ha1 => ?_⟩
    have s1 := SameB.mut (o := .lst [.int a1, .int b1]) (SameB.refl p H)
    refine ⟨_, rfl, by show 12 ≤ sizeLine; decide, fun l nl => ?_⟩
    have st1 : StA (upd H p (.lst [.int a1, .int b1])) p := ⟨a1, b1, upd_same, ha1⟩
    have lp := st1.ne nl
    refine ⟨p, .ref l, a1, b1, rfl, by rw [upd_ne lp.symm, upd_same], ha1, .inl ⟨l, _, rfl, SqL.of upd_same, lp, by show 0 < 12; decide, by show 12 < 1000; decide, fun j v a2 b2 hv ha2 => ?_⟩⟩
    have hs : ∃ n, v = V.int n ∧ (0 < n ∧ n < 26) ∧ (n = 1 ∨ n = 3 ∨ n = 5 ∨ n = 7 ∨ n = 9 ∨ n = 11 ∨ n = 15 ∨ n = 17 ∨ n = 19 ∨ n = 21 ∨ n = 23 ∨ n = 25) := by
      match j, hv with
      | 0, hv => cases hv; exact ⟨_, rfl, ⟨by decide, by decide⟩, by decide⟩
      | 1, hv => cases hv; exact ⟨_, rfl, ⟨by decide, by decide⟩, by decide⟩
      | 2, hv => cases hv; exact ⟨_, rfl, ⟨by decide, by decide⟩, by decide⟩
      | 3, hv => cases hv; exact ⟨_, rfl, ⟨by decide, by decide⟩, by decide⟩
      | 4, hv => cases hv; exact ⟨_, rfl, ⟨by decide, by decide⟩, by decide⟩
      | 5, hv => cases hv; exact ⟨_, rfl, ⟨by decide, by decide⟩, by decide⟩
      | 6, hv => cases hv; exact ⟨_, rfl, ⟨by decide, by decide⟩, by decide⟩
      | 7, hv => cases hv; exact ⟨_, rfl, ⟨by decide, by decide⟩, by decide⟩
      | 8, hv => cases hv; exact ⟨_, rfl, ⟨by decide, by decide⟩, by decide⟩
      | 9, hv => cases hv; exact ⟨_, rfl, ⟨by decide, by decide⟩, by decide⟩
      | 10, hv => cases hv; exact ⟨_, rfl, ⟨by decide, by decide⟩, by decide⟩
      | 11, hv => cases hv; exact ⟨_, rfl, ⟨by decide, by decide⟩, by decide⟩
      | j + 12, hv => cases hv
    obtain ⟨st, rfl, ⟨st0, st26⟩, odd⟩ := hs
    have s2 := (s1.new (o := .lst [.int 1, .int 3, .int 5, .int 7, .int 9, .int 11, .int 15, .int 17, .int 19, .int 21, .int 23, .int 25]) nl).mut (o := .lst [.int a2, .int b2])
    refine ⟨by show 2 ≤ sizeLine; decide, fun tp ntp => ?_⟩
    have s3 := s2.new (o := .tup [.int f1, .int st]) ntp
    have tpp : tp ≠ p := fun z => by rw [z, upd_same] at ntp; cases ntp
    refine ⟨tp, _, rfl, SqT.of upd_same, rfl, _, _, rfl, _, _, rfl, rfl, ?_⟩
    have hp3 : (upd (upd (upd (upd H p (.lst [.int a1, .int b1])) l (.lst [.int 1, .int 3, .int 5, .int 7, .int 9, .int 11, .int 15, .int 17, .int 19, .int 21, .int 23, .int 25])) p (.lst [.int a2, .int b2])) tp (.tup [.int f1, .int st])) p = some (.lst [.int a2, .int b2]) := by rw [upd_ne tpp.symm, upd_same]
    revert s3 hp3
    generalize upd (upd (upd (upd H p (.lst [.int a1, .int b1])) l (.lst [.int 1, .int 3, .int 5, .int 7, .int 9, .int 11, .int 15, .int 17, .int 19, .int 21, .int 23, .int 25])) p (.lst [.int a2, .int b2])) tp (.tup [.int f1, .int st]) = H3
    intro s3 hp3
    -- head
    refine ⟨⟨_, rfl⟩, _, rfl, p, a2, b2, 4, rfl, hp3, ha2, by decide, by decide +kernel, fun n1 a3 b3 n10 n14 ha3 => ?_⟩
    refine ⟨n1, rfl, by omega, by omega, fun D nD => ?_⟩
    have st3 : StA (upd H3 p (.lst [.int a3, .int b3])) p := ⟨a3, b3, upd_same, ha3⟩
    have Dp := st3.ne nD
    refine lc_range (lo := 0) (n := n1.toNat) (fun i H' => ∃ ys : List Str, H' D = some (.lst (ys.map V.str)) ∧ Ones ys ∧ ys.length = i ∧ StA H' p ∧ SameB p H H') ⟨[], upd_same, (fun z hz => by cases hz), rfl, ⟨a3, b3, by rw [upd_ne Dp.symm, upd_same], ha3⟩, (s3.mut).new nD⟩ (fun i H4 hi ⟨ys, hD, ho, hl, ⟨a4, b4, hp4, ha4⟩, s4⟩ => ?_) (fun H4 ⟨ys, hD, ho, hl, ⟨a4, b4, hp4, ha4⟩, s4⟩ => ?_)
    · refine ⟨rfl, ?_⟩
      refine yes_if ?_
      refine ⟨_, rfl, _, rfl, p, .str letters, a4, b4, rfl, hp4, ha4, .inr ⟨letters, rfl, by rw [letters_len]; decide, by rw [letters_len]; decide, fun c a5 b5 hc ha5 => ?_⟩⟩
      refine ⟨ys.map V.str, by rw [upd_ne Dp]; exact hD, ?_, ys ++ [⟨#[c]⟩], ?_, ?_, ?_, ⟨a5, b5, by rw [upd_ne Dp.symm, upd_same], ha5⟩, ?_⟩
      · rw [List.length_map, sizeLine_eq]; omega
      · rw [upd_same, List.map_append]; rfl
      · intro z hz
        rcases List.mem_append.mp hz with hz | hz
        · exact ho z hz
        · have e : z = ⟨#[c]⟩ := by simpa using hz
          rw [e]
          exact ⟨az_one (letters_az c hc), rfl⟩
      · rw [List.length_append, hl]; rfl
      · intro q o e n
        have nqD : q ≠ D := fun z => by
          have z1 := (s3.mut (o := .lst [.int a3, .int b3])) q o e n
          rw [z, nD] at z1; cases z1
        rw [upd_ne nqD, upd_ne n]
        exact s4 q o e n
    obtain ⟨hz1, hl1⟩ := join_az ys ho
    refine ⟨_, D, ys, rfl, rfl, .inl (SqL.of hD), by rw [ones_sum ys ho]; show ys.length + ys.length * 0 ≤ _; omega, ?_⟩
    have e0 : Str.ofString "" = Str.empty := by decide +kernel
    have ej : PySem.Txt.join (Str.ofString "") ys = Str.join Str.empty ys := by rw [e0]; exact StrLaws.glued_eq_join _ _
    have hz1' : AZ (PySem.Txt.join (Str.ofString "") ys) := ej ▸ hz1
    have hl1' : (PySem.Txt.join (Str.ofString "") ys).length ≤ 3 := by rw [ej, hl1]; omega
    clear hz1 hl1 ej
    revert hz1' hl1'
    show AZ (PySem.Txt.join (Str.ofString "") ys) → (PySem.Txt.join (Str.ofString "") ys).length ≤ 3 → _
    generalize PySem.Txt.join (Str.ofString "") ys = hd
    intro hz1 hl1
    -- tail
    have sD : SameB p H H4 := s4
    clear st3 nD
    refine ⟨⟨_, rfl⟩, _, rfl, p, a4, b4, 4, rfl, hp4, ha4, by decide, by decide +kernel, fun n2 a6 b6 n20 n24 ha6 => ?_⟩
    refine ⟨n2, rfl, by omega, by omega, fun D2 nD2 => ?_⟩
    have st6 : StA (upd H4 p (.lst [.int a6, .int b6])) p := ⟨a6, b6, upd_same, ha6⟩
    have Dp2 := st6.ne nD2
    refine lc_range (lo := 0) (n := n2.toNat) (fun i H' => ∃ ys : List Str, H' D2 = some (.lst (ys.map V.str)) ∧ Ones ys ∧ ys.length = i ∧ StA H' p ∧ SameB p H H') ⟨[], upd_same, (fun z hz => by cases hz), rfl, ⟨a6, b6, by rw [upd_ne Dp2.symm, upd_same], ha6⟩, (sD.mut).new nD2⟩ (fun i H5 hi ⟨ys, hD, ho, hl, ⟨a7, b7, hp7, ha7⟩, s5⟩ => ?_) (fun H5 ⟨ys, hD, ho, hl, ⟨a7, b7, hp7, ha7⟩, s5⟩ => ?_)
    · refine ⟨rfl, ?_⟩
      refine yes_if ?_
      refine ⟨_, rfl, _, rfl, p, .str letters, a7, b7, rfl, hp7, ha7, .inr ⟨letters, rfl, by rw [letters_len]; decide, by rw [letters_len]; decide, fun c a5 b5 hc ha5 => ?_⟩⟩
      refine ⟨ys.map V.str, by rw [upd_ne Dp2]; exact hD, ?_, ys ++ [⟨#[c]⟩], ?_, ?_, ?_, ⟨a5, b5, by rw [upd_ne Dp2.symm, upd_same], ha5⟩, ?_⟩
      · rw [List.length_map, sizeLine_eq]; omega
      · rw [upd_same, List.map_append]; rfl
      · intro z hz
        rcases List.mem_append.mp hz with hz | hz
        · exact ho z hz
        · have e : z = ⟨#[c]⟩ := by simpa using hz
          rw [e]
          exact ⟨az_one (letters_az c hc), rfl⟩
      · rw [List.length_append, hl]; rfl
      · intro q o e n
        have nqD : q ≠ D2 := fun z => by
          have z1 := (sD.mut (o := .lst [.int a6, .int b6])) q o e n
          rw [z, nD2] at z1; cases z1
        rw [upd_ne nqD, upd_ne n]
        exact s5 q o e n
    obtain ⟨hz2, hl2⟩ := join_az ys ho
    refine ⟨_, D2, ys, rfl, rfl, .inl (SqL.of hD), by rw [ones_sum ys ho]; show ys.length + ys.length * 0 ≤ _; omega, ?_⟩
    have e0 : Str.ofString "" = Str.empty := by decide +kernel
    have ej : PySem.Txt.join (Str.ofString "") ys = Str.join Str.empty ys := by rw [e0]; exact StrLaws.glued_eq_join _ _
    have hz2' : AZ (PySem.Txt.join (Str.ofString "") ys) := ej ▸ hz2
    have hl2' : (PySem.Txt.join (Str.ofString "") ys).length ≤ 3 := by rw [ej, hl2]; omega
    clear hz2 hl2 ej
    revert hz2' hl2'
    show AZ (PySem.Txt.join (Str.ofString "") ys) → (PySem.Txt.join (Str.ofString "") ys).length ≤ 3 → _
    generalize PySem.Txt.join (Str.ofString "") ys = tl
    intro hz2 hl2
    -- the words
    refine ⟨_, rfl, n, rfl, by omega, by omega, fun l3 nl3 => ?_⟩
    have stE : StA H5 p := ⟨a7, b7, hp7, ha7⟩
    have lp3 := stE.ne nl3
    have nlH : H l3 = none := by
      cases e : H l3 with
      | none => rfl
      | some o =>
        have z := s5 l3 o e lp3
        rw [nl3] at z; cases z
    refine lc_range (lo := 0) (n := n.toNat) (fun i H' => ∃ ws : List Str, H' = upd H5 l3 (.lst (ws.map V.str)) ∧ (∀ z ∈ ws, Wd z) ∧ ws.length = i ∧ ws = (List.range i).map fun i => hd ++ (⟨#[stepC f1 st i]⟩ : Str) ++ tl) ⟨[], rfl, (fun z hz => by cases hz), rfl, rfl⟩ (fun i H6 hi ⟨ws, e6, hw, hl, ew⟩ => ?_) (fun H6 ⟨ws, e6, hw, hl, ew⟩ => ?_)
    · subst e6
      refine ⟨rfl, ?_⟩
      refine yes_if ?_
      have m0 := Int.emod_nonneg (f1 + st * (0 + (i : Int))) (show (26 : Int) ≠ 0 by decide)
      have m1 := Int.emod_lt_of_pos (f1 + st * (0 + (i : Int))) (show (0 : Int) < 26 by decide)
      obtain ⟨j, ej⟩ : ∃ j : Nat, (f1 + st * (0 + (i : Int))) % 26 = (j : Int) := ⟨((f1 + st * (0 + (i : Int))) % 26).toNat, by omega⟩
      have hj : j < letters.cps.toList.length := by
        have e : letters.cps.toList.length = 26 := by decide +kernel
        omega
      have ev : letters.cps.toList[j]? = some (letters.cps.toList[j]'hj) := List.getElem?_eq_getElem hj
      have hc := letters_az _ (List.getElem_mem hj)
      refine ⟨_, rfl, _, rfl, _, rfl, _, rfl, _, rfl, st, _, rfl, rfl, .inl ⟨by omega, by omega⟩, f1, _, rfl, rfl, _, _, rfl, rfl, (by show (0 : Int) < 26; decide), ?_⟩
      refine ⟨letters, _, _, rfl, rfl, by rw [letters_len, sizeLine_eq]; decide, by rw [ej]; exact atI_nat ev, ?_⟩
      have l1 : (⟨#[letters.cps.toList[j]'hj]⟩ : Str).length = 1 := rfl
      refine ⟨hd, _, rfl, rfl, by rw [l1, sizeLine_eq]; omega, _, rfl, _, tl, rfl, rfl, by rw [Str.length_append, l1, sizeLine_eq]; omega, ?_⟩
      refine ⟨ws.map V.str, upd_same, by rw [List.length_map, sizeLine_eq]; omega, ws ++ [hd ++ ⟨#[letters.cps.toList[j]'hj]⟩ ++ tl], ?_, ?_, ?_, ?_⟩
      · rw [upd_upd, List.map_append]; rfl
      · intro z hz
        rcases List.mem_append.mp hz with hz | hz
        · exact hw z hz
        · have e : z = hd ++ ⟨#[letters.cps.toList[j]'hj]⟩ ++ tl := by simpa using hz
          rw [e]
          refine ⟨az_app (az_app hz1 (az_one hc)) hz2, ?_, ?_⟩
          · rw [Str.length_append, Str.length_append, l1]; omega
          · rw [Str.length_append, Str.length_append, l1]; omega
      · rw [List.length_append, hl]; rfl
      · have lj : letters.cps.toList[j]'hj = 97 + j := by
          have all : ∀ i, (hi : i < letters.cps.toList.length) → letters.cps.toList[i]'hi = 97 + i := by decide +kernel
          exact all j hj
        have sj : stepC f1 st i = 97 + j := by unfold stepC; rw [ej]; rfl
        rw [List.range_succ, List.map_append, ← ew, lj]
        show _ = ws ++ [hd ++ ⟨#[stepC f1 st i]⟩ ++ tl]
        rw [sj]
    · subst e6
      exact k l3 ws _ nlH lp3 hl hw (ew ▸ nodup_steps odd (by omega)) upd_same ⟨a7, b7, by rw [upd_ne lp3.symm]; exact hp7, ha7⟩ (s5.new nl3)
end

end K08

namespace K08
open PySem PySem.Spec PyProof.Rows L2 Jg
local macro_rules | `(tactic| walk_at "rd1") => `(tactic| (first
  | refine ⟨_, rfl, ?_⟩
  | refine ⟨_, _, rfl, rfl, ?_⟩
  | refine ⟨_, _, rfl, ?_⟩
  | refine ⟨rfl, ?_⟩
  | (refine ⟨show (0 : Int) < _ by omega, ?_⟩)
  | (refine ⟨Or.inl ⟨by omega, by omega⟩, ?_⟩)
  | (refine ⟨Or.inr ⟨by omega, by omega⟩, ?_⟩)
  | (refine ⟨(⟨by decide, by decide, by decide⟩ : CPow _ _), ?_⟩)
  | refine Or.inl ⟨_, rfl, ?_⟩
  | refine Or.inr ⟨_, rfl, ?_⟩
  | fail "rd"))
local macro_rules | `(tactic| walk_at "rd") => `(tactic| repeat' walk_at "rd1")


/-! ### contents are asked -/
theorem get_u (d v : Addr) (n : Int) (s : Addr) : (cflds d v n s).lookup ("_uses" : Str) = some (.ref d) := by
  have e : ((("_uses" : Str)) == ("_uses" : Str)) = true := by decide +kernel
  simp only [cflds, List.lookup, e]
theorem get_v (d v : Addr) (n : Int) (s : Addr) : (cflds d v n s).lookup ("_vouchers" : Str) = some (.ref v) := by
  have e1 : ((("_vouchers" : Str)) == ("_uses" : Str)) = false := by decide +kernel
  have e : ((("_vouchers" : Str)) == ("_vouchers" : Str)) = true := by decide +kernel
  simp only [cflds, List.lookup, e1, e]
theorem get_n (d v : Addr) (n : Int) (s : Addr) : (cflds d v n s).lookup ("_needed" : Str) = some (.int n) := by
  have e1 : ((("_needed" : Str)) == ("_uses" : Str)) = false := by decide +kernel
  have e2 : ((("_needed" : Str)) == ("_vouchers" : Str)) = false := by decide +kernel
  have e : ((("_needed" : Str)) == ("_needed" : Str)) = true := by decide +kernel
  simp only [cflds, List.lookup, e1, e2, e]
theorem get_s (d v : Addr) (n : Int) (s : Addr) : (cflds d v n s).lookup ("_signers" : Str) = some (.ref s) := by
  have e1 : ((("_signers" : Str)) == ("_uses" : Str)) = false := by decide +kernel
  have e2 : ((("_signers" : Str)) == ("_vouchers" : Str)) = false := by decide +kernel
  have e3 : ((("_signers" : Str)) == ("_needed" : Str)) = false := by decide +kernel
  have e : ((("_signers" : Str)) == ("_signers" : Str)) = true := by decide +kernel
  simp only [cflds, List.lookup, e1, e2, e3, e]
theorem get_no (d v : Addr) (n : Int) (s : Addr) {m : Str} (h1 : (m == ("_uses" : Str)) = false) (h2 : (m == ("_vouchers" : Str)) = false) (h3 : (m == ("_needed" : Str)) = false) (h4 : (m == ("_signers" : Str)) = false) : (cflds d v n s).lookup m = none := by
  simp only [cflds, List.lookup, h1, h2, h3, h4]
theorem val_in : ∀ (us : List Use) (r : Use), (us.map (·.z)).Nodup → r ∈ us → valV (dictU us) (Sum.inr r.z) = some (.ref r.t) := by
  intro us
  induction us with
  | nil => intro r _ h; cases h
  | cons p rest ih =>
    intro r nd hr
    rw [List.map_cons, List.nodup_cons] at nd
    show valV ((Sum.inr p.z, V.ref p.t) :: dictU rest) (Sum.inr r.z) = _
    rcases List.mem_cons.mp hr with e | h
    · rw [e]; exact valV_pos (p := (Sum.inr p.z, V.ref p.t)) rfl
    · have ne : ¬ ((Sum.inr p.z, V.ref p.t) : Key × V).1 = Sum.inr r.z := fun q => nd.1 (List.mem_map.mpr ⟨r, h, (Sum.inr.inj q).symm⟩)
      rw [valV_neg ne]
      exact ih r nd.2 h
/-- no role of these contents -/
def NoRole (K : PySem.W.Frag) (H : Hp) (c : Ct) (y : V) : Prop := (∃ z, y = .str z ∧ z.length ≤ sizeLine ∧ z ∉ c.us.map (·.z)) ∨ ∃ t, (∀ H', Same H H' → TyX K H' y t) ∧ kit K t "str" false
def spLst (C : Addr) (f : Ct → List Str) : Sp := fun vs H Q _ => ∃ x c S, vs = [.ref x] ∧ CAt S C H x c ∧ ∀ p, H p = none → Q (.ref p) (upd H p (.lst ((f c).map V.str)))
def spNeed (C : Addr) : Sp := fun vs H Q _ => ∃ x c S, vs = [.ref x] ∧ CAt S C H x c ∧ Q (.int c.ne) H
/-- of a role; what is read of its use -/
def spRole (K : PySem.W.Frag) (C CU : Addr) (out : Use → VK → Hp → Prop) : Sp := fun vs H Q E => ∃ x y c S, vs = [.ref x, y] ∧ CAt S C H x c ∧ CtOk c ∧
  ((∃ r ∈ c.us, y = .str r.z ∧ out r Q H) ∨ (NoRole K H c y ∧ ∀ d H', H d = none → H' d = some (.xd [(("name" : Str), y)]) → Same H H' → E (.ref CU) (some d) H'))
def outT : Use → VK → Hp → Prop := fun r Q H => Q (.ref r.t) H
def outA : Use → VK → Hp → Prop := fun r Q H => ∀ p, H p = none → Q (.ref p) (upd H p (.lst (r.ks.map V.str)))
def outU : Use → VK → Hp → Prop := fun r Q H => Q (.str r.u) H
theorem NoRole.keep {K : PySem.W.Frag} {H H' : Hp} {c : Ct} {y : V} (h : NoRole K H c y) (s : Same H H') : NoRole K H' c y := h.imp id fun ⟨t, ty, k⟩ => ⟨t, fun H2 s2 => ty H2 (s.trans s2), k⟩
theorem word_size {z : Str} (h : wordB z = true) : z.length ≤ sizeLine := by
  unfold wordB at h
  have := of_decide_eq_true (Bool.and_eq_true_iff.mp h).1
  rw [sizeLine_eq]; omega
section
variable {P : Program} {w : World} {K : PySem.W.Frag} {mg : Str → Option Value} {base : Heap} {C CU : Addr}
abbrev s_UnknownName_init : Stmt := inClass (top 5) 0
theorem sc_UnknownName_init : FnScope ["self", "name"] ["self", "name"] (defScope s_UnknownName_init) := ⟨rfl, rfl, rfl, by decide +kernel, rfl, by decide +kernel, by decide +kernel⟩
theorem ok_uinit (D : ExnQ K mg "UnknownName" CU "UnknownName.__init__" s_UnknownName_init "name") : ExnB P w K mg base 1 "UnknownName" CU (spX CU "name") := by
  obtain ⟨fI, fd, F, a, ty⟩ := D.ini
  refine ⟨D.mg_, D.ovr, fI, fd, _, F.ok sc_UnknownName_init (fun vs H Q E h => ?_) (fun cdv A outer s H vs Q E hr h => ?_), a, ty, F.binds (fun _ _ _ _ _ _ us hl => match us, hl with | [_, _], _ => rfl)⟩
  · obtain ⟨a, y, rfl, _⟩ := h; rfl
  · obtain ⟨a, y, rfl, ha, k⟩ := h
    exact ⟨_, (pss_one (ps_keep (pv 0) (pv 1))), _, rfl, _, rfl, a, CU, rfl, D.ovr, D.no, ha, fun dx n e => k dx n e⟩
abbrev s_Contents_roles : Stmt := inClass (top 21) 1
theorem sc_Contents_roles : FnScope ["self"] ["self"] (defScope s_Contents_roles) := ⟨rfl, rfl, rfl, by decide +kernel, rfl, by decide +kernel, by decide +kernel⟩
theorem ok_croles (D : PrpK K C "roles" "Contents.roles" s_Contents_roles) (T : Txt K mg) (J : CTx K mg C) : Prp P w K mg base CX0 1 C "roles" (spLst C fun c => c.us.map (·.z)) := by
  refine D.prp sc_Contents_roles (fun _ _ _ _ _ _ us hl => match us, hl with | [_], _ => rfl) (fun vs H Q E h => ?_) fun f cdv A outer s H vs Q E hr h => ?_
  · obtain ⟨x, c, S, rfl, _⟩ := h; rfl
  · obtain ⟨x, c, S, rfl, ⟨⟨dx, d, v, sg, e1, e2, e3, e4, _⟩, _⟩, k⟩ := h
    refine ⟨_, (pss_one (ps_ret (pe_callTy (call_list_dK rfl) (by rfl) T.b_list (by decide +kernel) (pa_cons (pe_fld (pv 0) rfl) pa_nil)))), ?_⟩
    have mz : (dictU c.us).map (fun kv => kV kv.1) = (c.us.map (·.z)).map V.str := by unfold dictU; rw [List.map_map, List.map_map]; rfl
    refine ⟨_, rfl, x, C, dx, _, _, rfl, e1, J.cl, J.nu, get_u _ _ _ _, d, dictU c.us, rfl, e2, fun q nq => ?_⟩
    rw [mz]
    exact k q nq
abbrev s_Contents_vouchers : Stmt := inClass (top 21) 2
theorem sc_Contents_vouchers : FnScope ["self"] ["self"] (defScope s_Contents_vouchers) := ⟨rfl, rfl, rfl, by decide +kernel, rfl, by decide +kernel, by decide +kernel⟩
theorem ok_cvo (D : PrpK K C "vouchers" "Contents.vouchers" s_Contents_vouchers) (T : Txt K mg) (J : CTx K mg C) : Prp P w K mg base CX0 1 C "vouchers" (spLst C (·.vo)) := by
  refine D.prp sc_Contents_vouchers (fun _ _ _ _ _ _ us hl => match us, hl with | [_], _ => rfl) (fun vs H Q E h => ?_) fun f cdv A outer s H vs Q E hr h => ?_
  · obtain ⟨x, c, S, rfl, _⟩ := h; rfl
  · obtain ⟨x, c, S, rfl, ⟨⟨dx, d, v, sg, e1, e2, e3, e4, _⟩, _⟩, k⟩ := h
    exact ⟨_, (pss_one (ps_ret (pe_callTy call_list_of (by rfl) T.b_list (by decide +kernel) (pa_cons (pe_fld (pv 0) rfl) pa_nil)))), _, rfl, x, C, dx, _, _, rfl, e1, J.cl, J.nv, get_v _ _ _ _, v, _, rfl, .inl (SqL.of e3), fun q nq => k q nq⟩
abbrev s_Contents_signers : Stmt := inClass (top 21) 4
theorem sc_Contents_signers : FnScope ["self"] ["self"] (defScope s_Contents_signers) := ⟨rfl, rfl, rfl, by decide +kernel, rfl, by decide +kernel, by decide +kernel⟩
theorem ok_csi (D : PrpK K C "signers" "Contents.signers" s_Contents_signers) (T : Txt K mg) (J : CTx K mg C) : Prp P w K mg base CX0 1 C "signers" (spLst C (·.si)) := by
  refine D.prp sc_Contents_signers (fun _ _ _ _ _ _ us hl => match us, hl with | [_], _ => rfl) (fun vs H Q E h => ?_) fun f cdv A outer s H vs Q E hr h => ?_
  · obtain ⟨x, c, S, rfl, _⟩ := h; rfl
  · obtain ⟨x, c, S, rfl, ⟨⟨dx, d, v, sg, e1, e2, e3, e4, _⟩, _⟩, k⟩ := h
    exact ⟨_, (pss_one (ps_ret (pe_callTy call_list_of (by rfl) T.b_list (by decide +kernel) (pa_cons (pe_fld (pv 0) rfl) pa_nil)))), _, rfl, x, C, dx, _, _, rfl, e1, J.cl, J.ns, get_s _ _ _ _, sg, _, rfl, .inl (SqL.of e4), fun q nq => k q nq⟩
abbrev s_Contents_needed : Stmt := inClass (top 21) 3
theorem sc_Contents_needed : FnScope ["self"] ["self"] (defScope s_Contents_needed) := ⟨rfl, rfl, rfl, by decide +kernel, rfl, by decide +kernel, by decide +kernel⟩
theorem ok_cne (D : PrpK K C "needed" "Contents.needed" s_Contents_needed) (T : Txt K mg) (J : CTx K mg C) : Prp P w K mg base CX0 1 C "needed" (spNeed C) := by
  refine D.prp sc_Contents_needed (fun _ _ _ _ _ _ us hl => match us, hl with | [_], _ => rfl) (fun vs H Q E h => ?_) fun f cdv A outer s H vs Q E hr h => ?_
  · obtain ⟨x, c, S, rfl, _⟩ := h; rfl
  · obtain ⟨x, c, S, rfl, ⟨⟨dx, d, v, sg, e1, e2, e3, e4, _⟩, _⟩, k⟩ := h
    exact ⟨_, (pss_one (ps_ret (pe_fld (pv 0) rfl))), _, rfl, x, C, dx, _, _, rfl, e1, J.cl, J.nn, get_n _ _ _ _, k⟩
abbrev s_Contents_use : Stmt := inClass (top 21) 7
theorem sc_Contents_use : FnScope ["self", "role"] ["self", "role"] (defScope s_Contents_use) := ⟨rfl, rfl, rfl, by decide +kernel, rfl, by decide +kernel, by decide +kernel⟩
theorem ok_cuse (D : MetK K C "_use" "Contents._use" s_Contents_use) (T : Txt K mg) (J : CTx K mg C) (G_is_word : Cal P w K mg base CX0 1 "is_word" (spWord K)) (G_UnknownName : ExnB P w K mg base 1 "UnknownName" CU (spX CU "name")) : Met P w K mg base (L2.CX P w) 3 C "_use" (spRole K C CU outT) := by
  refine D.metX sc_Contents_use (fun _ _ _ _ _ _ us hl => match us, hl with | [_, _], _ => rfl) (fun vs H Q E h => ?_) fun f cdv A outer s H vs Q E hr h => ?_
  · obtain ⟨x, y, c, S, rfl, _⟩ := h; rfl
  · obtain ⟨x, y, c, S, rfl, ⟨⟨dx, d, v, sg, e1, e2, e3, e4, _⟩, _⟩, ok, h⟩ := h
    have hu1 : (A.deeper (envOfC "Contents._use" (defScope s_Contents_use) s.heap.objs.size f cdv)).units + 1 < cLine := Nat.lt_of_le_of_lt (Nat.add_le_add_left (by decide : 1 ≤ 64) _) hr.units
    refine ⟨_, (pss_cons (ps_if (PW.pt (pw_or (pt_not (pt_val (pe_c G_is_word hr (by decide) rfl (pa_cons (pv 1) pa_nil)))) (pw_or1 (pt_cmp (pc_dnotin hu1 (pv 1) (pe_fld (pv 0) rfl)))))) (pss_one (ps_raise rfl (takes_of rfl rfl rfl rfl) (pmk_b G_UnknownName hr (by decide) rfl (pa_cons (pv 1) pa_nil)))) pss_nil)
      (pss_one (ps_ret (pe_dget hu1 (pe_fld (pv 0) rfl) (pv 1) (fun _ _ => rfl))))), ?_⟩
    rcases h with ⟨r, hr', rfl, q⟩ | ⟨⟨z, rfl, hz, no⟩ | ⟨t, ty, kt⟩, k⟩
    · have v1 := val_in c.us r ok.nd hr'
      refine ⟨_, rfl, .str r.z, rfl, .inl ⟨r.z, rfl, word_size (ok.us r hr').2.1, _, rfl, ?_⟩⟩
      rw [(ok.us r hr').2.1]
      refine iteF ⟨_, rfl, _, rfl, x, C, dx, _, _, rfl, e1, J.cl, J.nu, get_u _ _ _ _, d, _, rfl, DGet.k (k := Sum.inr r.z) e2, _, rfl, ?_⟩
      rw [v1]
      exact iteF ⟨_, rfl, x, C, dx, _, _, rfl, e1, J.cl, J.nu, get_u _ _ _ _, _, rfl, d, .ref r.t, rfl, by rw [← v1]; exact DGet.k (k := Sum.inr r.z) e2, q⟩
    · have v1 := val_use c.us z no
      refine ⟨_, rfl, .str z, rfl, .inl ⟨z, rfl, hz, _, rfl, ?_⟩⟩
      cases cw : wordB z with
      | false => exact iteT ⟨_, rfl, x_read fun d nd => k d _ nd upd_same (same_new nd)⟩
      | true =>
        refine iteF ⟨_, rfl, _, rfl, x, C, dx, _, _, rfl, e1, J.cl, J.nu, get_u _ _ _ _, d, _, rfl, DGet.k (k := Sum.inr z) e2, _, rfl, ?_⟩
        rw [v1]
        exact iteT ⟨_, rfl, x_read fun d nd => k d _ nd upd_same (same_new nd)⟩
    · exact ⟨_, rfl, y, rfl, .inr ⟨t, ty _ (.refl _), kt, _, rfl, iteT ⟨_, rfl, x_read fun d nd => k d _ nd upd_same (same_new nd)⟩⟩⟩
abbrev s_Contents_accepted : Stmt := inClass (top 21) 5
theorem sc_Contents_accepted : FnScope ["self", "role"] ["self", "role"] (defScope s_Contents_accepted) := ⟨rfl, rfl, rfl, by decide +kernel, rfl, by decide +kernel, by decide +kernel⟩
theorem ok_cacc (D : MetK K C "accepted" "Contents.accepted" s_Contents_accepted) (T : Txt K mg) (J : CTx K mg C) (M_use : Met P w K mg base (L2.CX P w) 3 C "_use" (spRole K C CU outT)) : Met P w K mg base (L2.CX P w) 4 C "accepted" (spRole K C CU outA) := by
  refine D.metX sc_Contents_accepted (fun _ _ _ _ _ _ us hl => match us, hl with | [_, _], _ => rfl) (fun vs H Q E h => ?_) fun f cdv A outer s H vs Q E hr h => ?_
  · obtain ⟨x, y, c, S, rfl, _⟩ := h; rfl
  · obtain ⟨x, y, c, S, rfl, at_, ok, h⟩ := h
    obtain ⟨⟨dx, d, v, sg, e1, e2, e3, e4, _⟩, us⟩ := id at_
    refine ⟨_, (pss_one (ps_ret (pe_callTy call_list_of (by rfl) T.b_list (by decide +kernel) (pa_cons (pe_ix (r := rIxT K) ix_tup (pe_mS M_use J.cl (takes_of rfl rfl rfl rfl) hr (by decide) (pv 0) (pa_cons (pv 1) pa_nil)) pe_int (fun _ _ => rfl)) pa_nil)))), ?_⟩
    refine ⟨_, rfl, x, dx, _, rfl, e1, get_no _ _ _ _ (by decide +kernel) (by decide +kernel) (by decide +kernel) (by decide +kernel), _, rfl, x, y, c, S, rfl, at_, ok, ?_⟩
    rcases h with ⟨r, hr', rfl, q⟩ | ⟨no, k⟩
    · refine .inl ⟨r, hr', rfl, r.t, _, _, _, rfl, rfl, SqT.of (us r hr').tp, atI_nat (j := 0) rfl, r.a, _, rfl, .inl (SqL.of (us r hr').ls), fun p np => q p np⟩
    · exact .inr ⟨no, fun d H' nd ed s2 => k d H' nd ed s2⟩
abbrev s_Contents_used : Stmt := inClass (top 21) 6
theorem sc_Contents_used : FnScope ["self", "role"] ["self", "role"] (defScope s_Contents_used) := ⟨rfl, rfl, rfl, by decide +kernel, rfl, by decide +kernel, by decide +kernel⟩
theorem ok_cused (D : MetK K C "used" "Contents.used" s_Contents_used) (T : Txt K mg) (J : CTx K mg C) (M_use : Met P w K mg base (L2.CX P w) 3 C "_use" (spRole K C CU outT)) : Met P w K mg base (L2.CX P w) 4 C "used" (spRole K C CU outU) := by
  refine D.metX sc_Contents_used (fun _ _ _ _ _ _ us hl => match us, hl with | [_, _], _ => rfl) (fun vs H Q E h => ?_) fun f cdv A outer s H vs Q E hr h => ?_
  · obtain ⟨x, y, c, S, rfl, _⟩ := h; rfl
  · obtain ⟨x, y, c, S, rfl, at_, ok, h⟩ := h
    obtain ⟨⟨dx, d, v, sg, e1, e2, e3, e4, _⟩, us⟩ := id at_
    refine ⟨_, (pss_one (ps_ret (pe_ix (r := rIxT K) ix_tup (pe_mS M_use J.cl (takes_of rfl rfl rfl rfl) hr (by decide) (pv 0) (pa_cons (pv 1) pa_nil)) pe_int (fun _ _ => rfl)))), ?_⟩
    refine ⟨_, rfl, x, dx, _, rfl, e1, get_no _ _ _ _ (by decide +kernel) (by decide +kernel) (by decide +kernel) (by decide +kernel), _, rfl, x, y, c, S, rfl, at_, ok, ?_⟩
    rcases h with ⟨r, hr', rfl, q⟩ | ⟨no, k⟩
    · exact .inl ⟨r, hr', rfl, r.t, _, _, _, rfl, rfl, SqT.of (us r hr').tp, atI_nat (j := 1) rfl, q⟩
    · exact .inr ⟨no, fun d H' nd ed s2 => k d H' nd ed s2⟩
end

end K08

namespace K08
open PySem PySem.Spec PyProof.Rows L2 Jg
local macro_rules | `(tactic| walk_at "rd1") => `(tactic| (first
  | refine ⟨_, rfl, ?_⟩
  | refine ⟨_, _, rfl, rfl, ?_⟩
  | refine ⟨_, _, rfl, ?_⟩
  | refine ⟨rfl, ?_⟩
  | (refine ⟨show (0 : Int) < _ by omega, ?_⟩)
  | (refine ⟨Or.inl ⟨by omega, by omega⟩, ?_⟩)
  | (refine ⟨Or.inr ⟨by omega, by omega⟩, ?_⟩)
  | (refine ⟨(⟨by decide, by decide, by decide⟩ : CPow _ _), ?_⟩)
  | refine Or.inl ⟨_, rfl, ?_⟩
  | refine Or.inr ⟨_, rfl, ?_⟩
  | fail "rd"))
local macro_rules | `(tactic| walk_at "rd") => `(tactic| repeat' walk_at "rd1")


/-! ### contents are compared, and asked for keys -/
theorem CTx.ty {K : PySem.W.Frag} {mg : Str → Option Value} {C : Addr} (J : CTx K mg C) {H : Hp} {x dx : Addr} {fs : List (Str × V)} (h : H x = some (.ins C dx fs)) : TyX K H (.ref x) (.ref C) := .base (.ins h J.cl J.cls_ J.cgt J.ctk J.mro)
def tri (r : Use) : Str × List Str × Str := (r.z, r.ks, r.u)
def usD (us : List Use) : List (Key × PyData) := us.map fun r => (Sum.inr r.z, .tuple [.list (r.ks.map PyData.str), .str r.u])
def ctB (c e : Ct) : Bool := decide (c.us.map tri = e.us.map tri) && (decide (c.vo = e.vo) && (decide (c.ne = e.ne) && decide (c.si = e.si)))
theorem okW_word {z : Str} (h : wordB z = true) : okW z := by
  unfold wordB at h
  exact okW_ascii (Bool.and_eq_true_iff.mp (Bool.and_eq_true_iff.mp h).2).1
theorem KsOk.okW {ks : List Str} {m : Nat} (h : KsOk ks m) : ∀ z ∈ ks, okW z := fun z hz => okW_word (h.w z hz)
theorem eqv_use (k1 k2 : List Str) (u1 u2 : Str) : PyData.eqv (.tuple [.list (k1.map PyData.str), .str u1]) (.tuple [.list (k2.map PyData.str), .str u2]) = (decide (k1 = k2) && decide (u1 = u2)) := by
  rw [PyData.eqv]
  show (PyData.eqv (.list (k1.map PyData.str)) (.list (k2.map PyData.str)) && (PyData.eqv (.str u1) (.str u2) && true)) = _
  rw [eqv_strs, eqv_str, Bool.and_true]
theorem sh_use {k : List Str} {u : Str} (h : ∀ z ∈ k, okW z) (hu : okW u) : Sh40 (.tuple [.list (k.map PyData.str), .str u]) := by
  have e : PyData.canLay0 (.str u) = true := by
    unfold Jg.okW at hu
    simp [PyData.canLay0, hu]
  refine ⟨?_, ?_⟩
  · show (PyData.canLayAll0 (k.map PyData.str) && (PyData.canLay0 (.str u) && true)) = true
    rw [lay_strs k h, e]; rfl
  · show max (PyData.depthAll (k.map PyData.str) + 1) (max 0 0) + 1 ≤ 40
    rw [depth_strs]; decide
theorem dv_us {K : PySem.W.Frag} {S : Addr → Prop} {H : Hp} : ∀ {us : List Use}, (∀ r ∈ us, UAt S H r) → (∀ r ∈ us, KsOk r.ks 8 ∧ wordB r.z = true ∧ wordB r.u = true) → DvK K H (dictU us) (usD us)
  | [], _, _ => .nil
  | r :: rest, h, k => .cons ⟨rfl, .tup (SqT.of (h r (List.mem_cons_self ..)).tp) (.cons (dp_strs (SqL.of (h r (List.mem_cons_self ..)).ls)) (.cons (.str _) .nil)), sh_use (k r (List.mem_cons_self ..)).1.okW (okW_word (k r (List.mem_cons_self ..)).2.2)⟩
      (dv_us (fun r hr => h r (List.mem_cons_of_mem _ hr)) fun r hr => k r (List.mem_cons_of_mem _ hr))
theorem look_in : ∀ (us : List Use) (r : Use), (us.map (·.z)).Nodup → r ∈ us → look (usD us) (Sum.inr r.z) = some (.tuple [.list (r.ks.map PyData.str), .str r.u]) := by
  intro us
  induction us with
  | nil => intro r _ h; cases h
  | cons p rest ih =>
    intro r nd hr
    rw [List.map_cons, List.nodup_cons] at nd
    show (if (Sum.inr p.z : Key) = Sum.inr r.z then _ else look (usD rest) (Sum.inr r.z)) = _
    rcases List.mem_cons.mp hr with e | h
    · rw [e, if_pos rfl]
    · rw [if_neg fun q => nd.1 (List.mem_map.mpr ⟨r, h, (Sum.inr.inj q).symm⟩)]
      exact ih r nd.2 h
theorem look_not : ∀ (us : List Use) (z : Str), z ∉ us.map (·.z) → look (usD us) (Sum.inr z) = none
  | [], _, _ => rfl
  | p :: rest, z, h => by
    rw [List.map_cons, List.mem_cons, not_or] at h
    show (if (Sum.inr p.z : Key) = Sum.inr z then _ else look (usD rest) (Sum.inr z)) = _
    rw [if_neg fun q => h.1 (Sum.inr.inj q).symm]
    exact look_not rest z h.2
theorem eqv_uses {c e : Ct} (hc : CtOk c) (he : CtOk e) : eqvD (usD c.us) (usD e.us) = decide (c.us.map tri = e.us.map tri) := by
  rw [Bool.eq_iff_iff, decide_eq_true_iff]
  unfold eqvD
  rw [Bool.and_eq_true, List.all_eq_true]
  constructor
  · rintro ⟨hl, ha⟩
    have hl' : c.us.length = e.us.length := by
      have := eq_of_beq hl
      unfold usD at this
      rwa [List.length_map, List.length_map] at this
    -- each use of the first is one of the second
    have each : ∀ r ∈ c.us, ∃ q ∈ e.us, q.z = r.z ∧ r.ks = q.ks ∧ r.u = q.u := by
      intro r hr
      have h := ha (Sum.inr r.z, .tuple [.list (r.ks.map PyData.str), .str r.u]) (List.mem_map.mpr ⟨r, hr, rfl⟩)
      by_cases m : r.z ∈ e.us.map (·.z)
      · obtain ⟨q, hq, ez⟩ := List.mem_map.mp m
        have l := look_in e.us q he.nd hq
        rw [ez] at l
        simp only [l] at h
        rw [eqv_use, Bool.and_eq_true, decide_eq_true_iff, decide_eq_true_iff] at h
        exact ⟨q, hq, ez, h.1, h.2⟩
      · have l := look_not e.us r.z m
        simp only [l] at h
        cases h
    have zs : c.us.map (·.z) = e.us.map (·.z) := eq_sorted he.so hc.so hc.nd (fun x hx => by
      obtain ⟨r, hr, rfl⟩ := List.mem_map.mp hx
      obtain ⟨q, hq, ez, _⟩ := each r hr
      exact List.mem_map.mpr ⟨q, hq, ez⟩) (by rw [List.length_map, List.length_map]; exact hl')
    refine List.ext_getElem (by rw [List.length_map, List.length_map]; exact hl') fun i h1 h2 => ?_
    rw [List.getElem_map, List.getElem_map]
    rw [List.length_map] at h1 h2
    obtain ⟨q, hq, ez, e1, e2⟩ := each c.us[i] (List.getElem_mem h1)
    have zi : c.us[i].z = e.us[i].z := by
      have := congrArg (fun l => l[i]?) zs
      simp only [List.getElem?_map, List.getElem?_eq_getElem h1, List.getElem?_eq_getElem h2, Option.map_some] at this
      exact Option.some.inj this
    have l1 := look_in e.us q he.nd hq
    have l2 := look_in e.us e.us[i] he.nd (List.getElem_mem h2)
    rw [ez, zi, l2] at l1
    have l3 := Option.some.inj l1
    have l4 : PyData.eqv (.tuple [.list (e.us[i].ks.map PyData.str), .str e.us[i].u]) (.tuple [.list (q.ks.map PyData.str), .str q.u]) = true := by
      rw [← l3, eqv_use, decide_eq_true rfl, decide_eq_true rfl]; rfl
    rw [eqv_use, Bool.and_eq_true, decide_eq_true_iff, decide_eq_true_iff] at l4
    unfold tri
    rw [zi, e1, e2, l4.1, l4.2]
  · intro h
    have hl := congrArg List.length h
    rw [List.length_map, List.length_map] at hl
    refine ⟨by unfold usD; rw [List.length_map, List.length_map, hl]; exact beq_self_eq_true _, fun p hp => ?_⟩
    obtain ⟨r, hr, rfl⟩ := List.mem_map.mp hp
    have m : tri r ∈ e.us.map tri := h ▸ List.mem_map_of_mem hr
    obtain ⟨q, hq, et⟩ := List.mem_map.mp m
    have ez : q.z = r.z := congrArg Prod.fst et
    have ek : q.ks = r.ks := congrArg (fun t => t.2.1) et
    have eu : q.u = r.u := congrArg (fun t => t.2.2) et
    have l := look_in e.us q he.nd hq
    rw [ez] at l
    simp only [l]
    rw [eqv_use, ek, eu, decide_eq_true rfl, decide_eq_true rfl]; rfl
def spCEq (K : PySem.W.Frag) (C : Addr) : Sp := fun vs H Q _ => ∃ x y c S, vs = [.ref x, y] ∧ CAt S C H x c ∧ CtOk c ∧
  ((∃ x2 c2 S2, y = .ref x2 ∧ CAt S2 C H x2 c2 ∧ CtOk c2 ∧ Q (.bl (ctB c c2)) H) ∨ (∃ t, TyX K H y t ∧ PySem.W.kitOne K t (.ref C) = some false ∧ Q (.bl false) H))
def inCt (c : Ct) (z : Str) : Bool := wordB z && c.us.any fun r => decide (z ∈ r.ks)
def spCIn (K : PySem.W.Frag) (C : Addr) : Sp := fun vs H Q _ => ∃ x y c S, vs = [.ref x, y] ∧ CAt S C H x c ∧ CtOk c ∧
  ((∃ z, y = .str z ∧ z.length ≤ sizeLine ∧ ∀ H', Same H H' → Q (.bl (inCt c z)) H') ∨ (∃ t, TyX K H y t ∧ kit K t "str" false ∧ Q (.bl false) H))
def allKs (c : Ct) : List Str := c.vo ++ c.si ++ c.us.flatMap fun r => r.ks ++ [r.u]
theorem flat_len : ∀ (us : List Use), (∀ r ∈ us, r.ks.length ≤ 8) → (us.flatMap fun r => r.ks ++ [r.u]).length ≤ 9 * us.length := by
  intro us
  induction us with
  | nil => intro _; exact Nat.zero_le _
  | cons p t ih =>
    intro h
    rw [List.flatMap_cons, List.length_append, List.length_append, List.length_cons]
    have := ih fun r hr => h r (List.mem_cons_of_mem _ hr)
    have := h p (List.mem_cons_self ..)
    simp only [List.length_cons, List.length_nil]
    omega
def spCAll (C : Addr) : Sp := fun vs H Q _ => ∃ x c S, vs = [.ref x] ∧ CAt S C H x c ∧ CtOk c ∧ ∀ p H', H p = none → Same H H' → H' p = some (.lst ((srtW (onceW (allKs c))).map V.str)) → Q (.ref p) H'
theorem lock_back {H : Hp} {d : Addr} {u : HO} {od : Obj} (e2 : H d = some u) : ∀ H', Same (upd H d (.frz od u)) H' → Same H (upd H' d u) := fun H' s q o e => by
  by_cases c : q = d
  · rw [c] at e ⊢
    rw [upd_same, ← e2]; exact e
  · rw [upd_ne c]
    exact s _ _ (by rw [upd_ne c]; exact e)
theorem us_at {us : List Use} {i : Nat} {k : Key} {y : V} (ek : (dictU us)[i]? = some (k, y)) : ∃ r, us[i]? = some r ∧ y = V.ref r.t := by
  unfold dictU at ek
  rw [List.getElem?_map] at ek
  cases c : us[i]? with
  | none => rw [c] at ek; cases ek
  | some r => rw [c] at ek; exact ⟨r, rfl, (congrArg Prod.snd (Option.some.inj ek)).symm⟩
section
variable {P : Program} {w : World} {K : PySem.W.Frag} {mg : Str → Option Value} {base : Heap} {C : Addr}
abbrev s_Contents_eq : Stmt := inClass (top 21) 8
theorem sc_Contents_eq : FnScope ["self", "other"] ["self", "other"] (defScope s_Contents_eq) := ⟨rfl, rfl, rfl, by decide +kernel, rfl, by decide +kernel, by decide +kernel⟩
theorem ok_ceq (D : MetK K C "__eq__" "Contents.__eq__" s_Contents_eq) (T : Txt K mg) (J : CTx K mg C) : Met P w K mg base CX0 1 C "__eq__" (spCEq K C) := by
  refine D.met sc_Contents_eq (fun _ _ _ _ _ _ us hl => match us, hl with | [_, _], _ => rfl) (fun vs H Q E h => ?_) fun f cdv A outer s H vs Q E hr h => ?_
  · obtain ⟨x, y, c, S, rfl, _⟩ := h; rfl
  · obtain ⟨x, y, c, S, rfl, at_, ok, h⟩ := h
    obtain ⟨⟨dx, d, v, sg, e1, e2, e3, e4, _⟩, us⟩ := id at_
    refine ⟨_, (pss_one (ps_ret (pe_and (pe_callB call_isi (by rfl) T.b_isinstance (by decide +kernel) (pa_cons (pv 1) (pa_cons (pe_glob (v := .ref C) rfl J.cC rfl) pa_nil))) (pe_and (pe_cmpR (op_eqDD hr.units) (pe_fld (pv 0) rfl) (pe_fld (pv 1) rfl) (nomark _)) (pe_and (pe_cmpR (op_eqD hr.units) (pe_fld (pv 0) rfl) (pe_fld (pv 1) rfl) (nomark _)) (pe_and (pe_cmpR op_eq (pe_fld (pv 0) rfl) (pe_fld (pv 1) rfl) (nomark _)) (pe_one (pe_cmpR (op_eqD hr.units) (pe_fld (pv 0) rfl) (pe_fld (pv 1) rfl) (nomark _))))))))), ?_⟩
    rcases h with ⟨x2, c2, S2, rfl, at2, ok2, q⟩ | ⟨t, ty, kt, q⟩
    · obtain ⟨⟨dx2, d2, v2, sg2, f1, f2, f3, f4, _⟩, us2⟩ := id at2
      refine ⟨_, rfl, .ref x2, .ref C, _, _, true, rfl, .own C, J.ty f1, J.kCC, _, rfl, iteT ?_⟩
      refine ⟨_, rfl, x, C, dx, _, _, rfl, e1, J.cl, J.nu, get_u _ _ _ _, _, rfl, x2, C, dx2, _, _, rfl, f1, J.cl, J.nu, get_u _ _ _ _, d, d2, _, _, _, _, rfl, rfl, e2, f2, dv_us us ok.us, dv_us us2 ok2.us, _, rfl, ?_⟩
      rw [eqv_uses ok ok2]
      unfold ctB at q
      by_cases c1 : c.us.map tri = c2.us.map tri
      · rw [decide_eq_true c1] at q ⊢
        refine iteT ⟨_, rfl, x, C, dx, _, _, rfl, e1, J.cl, J.nv, get_v _ _ _ _, _, rfl, x2, C, dx2, _, _, rfl, f1, J.cl, J.nv, get_v _ _ _ _, ask_eqS (SqL.of e3) (SqL.of f3) ok.vo.okW ok2.vo.okW ⟨_, rfl, ?_⟩⟩
        by_cases c2' : c.vo = c2.vo
        · rw [decide_eq_true c2'] at q ⊢
          refine iteT ⟨_, rfl, x, C, dx, _, _, rfl, e1, J.cl, J.nn, get_n _ _ _ _, _, rfl, x2, C, dx2, _, _, rfl, f1, J.cl, J.nn, get_n _ _ _ _, rfl, _, rfl, ?_⟩
          have en : decide (V.int c.ne = V.int c2.ne) = decide (c.ne = c2.ne) := by
            rw [Bool.eq_iff_iff, decide_eq_true_iff, decide_eq_true_iff]
            exact ⟨V.int.inj, fun h => by rw [h]⟩
          rw [en]
          by_cases c3 : c.ne = c2.ne
          · rw [decide_eq_true c3] at q ⊢
            refine iteT ⟨_, rfl, x, C, dx, _, _, rfl, e1, J.cl, J.ns, get_s _ _ _ _, _, rfl, x2, C, dx2, _, _, rfl, f1, J.cl, J.ns, get_s _ _ _ _, ask_eqS (SqL.of e4) (SqL.of f4) ok.si.okW ok2.si.okW q⟩
          · rw [decide_eq_false c3] at q ⊢
            exact iteF q
        · rw [decide_eq_false c2'] at q ⊢
          exact iteF q
      · rw [decide_eq_false c1] at q ⊢
        exact iteF q
    · exact ⟨_, rfl, y, .ref C, _, _, false, rfl, .own C, ty, kt, _, rfl, iteF q⟩
end

end K08

namespace K08
open PySem PySem.Spec PyProof.Rows L2 Jg
local macro_rules | `(tactic| walk_at "rd1") => `(tactic| (first
  | refine ⟨_, rfl, ?_⟩
  | refine ⟨_, _, rfl, rfl, ?_⟩
  | refine ⟨_, _, rfl, ?_⟩
  | refine ⟨rfl, ?_⟩
  | (refine ⟨show (0 : Int) < _ by omega, ?_⟩)
  | (refine ⟨Or.inl ⟨by omega, by omega⟩, ?_⟩)
  | (refine ⟨Or.inr ⟨by omega, by omega⟩, ?_⟩)
  | (refine ⟨(⟨by decide, by decide, by decide⟩ : CPow _ _), ?_⟩)
  | refine Or.inl ⟨_, rfl, ?_⟩
  | refine Or.inr ⟨_, rfl, ?_⟩
  | fail "rd"))
local macro_rules | `(tactic| walk_at "rd") => `(tactic| repeat' walk_at "rd1")


/-! ### what is given, as it is drawn -/
theorem StA.no {H : Hp} {p l : Addr} {o : HO} (h : StA H p) (e : H l = some o) (n : ∀ a b : Int, o ≠ .lst [.int a, .int b]) : l ≠ p := fun z => by
  obtain ⟨a, b, e2, _⟩ := h
  rw [z, e2] at e
  exact n a b (Option.some.inj e).symm
theorem strs_no {ws : List Str} (a b : Int) : HO.lst (ws.map V.str) ≠ .lst [.int a, .int b] := fun z => by
  injection z with z
  cases ws with
  | nil => cases z
  | cons x r => injection z with z1 z2; cases z1
theorem refs_no {ws : List Addr} (a b : Int) : HO.lst (ws.map V.ref) ≠ .lst [.int a, .int b] := fun z => by
  injection z with z
  cases ws with
  | nil => cases z
  | cons x r => injection z with z1 z2; cases z1
theorem StA.new {H : Hp} {p l : Addr} {o : HO} (h : StA H p) (n : H l = none) : StA (upd H l o) p := by
  obtain ⟨a, b, e, z⟩ := h
  exact ⟨a, b, by rw [upd_ne (ne_of_none e n)]; exact e, z⟩
theorem StA.keep {H H' : Hp} {p : Addr} (h : StA H p) (s : Same H H') : StA H' p := by
  obtain ⟨a, b, e, z⟩ := h
  exact ⟨a, b, s _ _ e, z⟩
theorem StA.neS {H : Hp} {p l : Addr} {ws : List Str} (h : StA H p) (e : H l = some (.lst (ws.map V.str))) : l ≠ p := h.no e strs_no
@[irreducible] def spDr : Sp := spDraw
@[irreducible] def spCh (K : PySem.W.Frag) : Sp := spChoose K
theorem use_draw {H : Hp} {p : Addr} {n : Int} {Q : VK} {E : XK} (st : StA H p) (h1 : 0 < n) (h2 : n < 1000) (k : ∀ v H', 0 ≤ v → v < n → StA H' p → SameB p H H' → Q (.int v) H') : spDr [.ref p, .int n] H Q E := by
  unfold spDr
  have h2 := i1000 (by omega) h2
  obtain ⟨a, b, e, ha⟩ := st
  exact ⟨p, a, b, n, rfl, e, ha, h1, h2, fun v a' b' v0 v1 h => k v _ v0 v1 ⟨a', b', upd_same, h⟩ (SameB.refl _ _).mut⟩
theorem use_choose {K : PySem.W.Frag} {H : Hp} {p l : Addr} {xs : List V} {Q : VK} {E : XK} (st : StA H p) (hl : SqL K H l xs) (n : l ≠ p) (h1 : 0 < xs.length) (h2 : xs.length < 1000) (k : ∀ v H', v ∈ xs → StA H' p → SameB p H H' → Q v H') : spCh K [.ref p, .ref l] H Q E := by
  unfold spCh
  obtain ⟨a, b, e, ha⟩ := st
  exact ⟨p, .ref l, a, b, rfl, e, ha, .inl ⟨l, xs, rfl, hl, n, h1, h2, fun i v a' b' e h => k v _ (List.mem_of_getElem? e) ⟨a', b', upd_same, h⟩ (SameB.refl _ _).mut⟩⟩
theorem drI {P : Program} {w : World} {K : PySem.W.Frag} {mg : Str → Option Value} {base : Heap} {k : Nat} {x : Str} (h : Cal P w K mg base CX0 k x spDraw) : Cal P w K mg base CX0 k x spDr := by unfold spDr; exact h
theorem chI {P : Program} {w : World} {K : PySem.W.Frag} {mg : Str → Option Value} {base : Heap} {k : Nat} {x : Str} (h : Cal P w K mg base CX0 k x (spChoose K)) : Cal P w K mg base CX0 k x (spCh K) := by unfold spCh; exact h
theorem str_at {ws : List Str} {i : Nat} {x : V} (h : (ws.map V.str)[i]? = some x) : ∃ z, ws[i]? = some z ∧ x = .str z := by
  rw [List.getElem?_map] at h
  cases c : ws[i]? with
  | none => rw [c] at h; cases h
  | some z => rw [c] at h; exact ⟨z, rfl, (Option.some.inj h).symm⟩
theorem str_mem {ws : List Str} {x : V} (h : x ∈ ws.map V.str) : ∃ z ∈ ws, x = .str z := by
  obtain ⟨z, hz, e⟩ := List.mem_map.mp h
  exact ⟨z, hz, e.symm⟩
@[irreducible] def spSome (K : PySem.W.Frag) : Sp := fun vs H Q _ => ∃ (p l : Addr) (ws : List Str), vs = [.ref p, .ref l] ∧ StA H p ∧ H l = some (.lst (ws.map V.str)) ∧ ws.length ≤ 100 ∧
  ∀ (D : Addr) (us : List Str) (H' : Hp), H D = none → us.Sublist ws → H' D = some (.lst (us.map V.str)) → StA H' p → SameB p H H' → Q (.ref D) H'
theorem use_some {K : PySem.W.Frag} {H : Hp} {p l : Addr} {ws : List Str} {Q : VK} {E : XK} (st : StA H p) (el : H l = some (.lst (ws.map V.str))) (few : ws.length ≤ 100) (k : ∀ (D : Addr) (us : List Str) (H' : Hp), H D = none → us.Sublist ws → H' D = some (.lst (us.map V.str)) → StA H' p → SameB p H H' → Q (.ref D) H') : spSome K [.ref p, .ref l] H Q E := by
  unfold spSome
  exact ⟨p, l, ws, rfl, st, el, few, k⟩
structure TRow (H : Hp) (r : Use) : Prop where
  tp : H r.t = some (.tup [.str r.z, .ref r.a, .str r.u])
  ls : H r.a = some (.lst (r.ks.map V.str))
structure Td where
  rows : List Use
  vo : List Str
  le : Int
  sg : Option (List Str)
/-- signers as they are given -/
def SgAt (H : Hp) (sv : V) : Option (List Str) → Prop
  | none => sv = .non
  | some ks => ∃ l, sv = .ref l ∧ H l = some (.lst (ks.map V.str))
structure TdAt (H : Hp) (q : Addr) (d : Td) : Prop where
  ex : ∃ lr lv sv, H q = some (.tup [.ref lr, .ref lv, .int d.le, sv]) ∧ H lr = some (.lst ((d.rows.map (·.t)).map V.ref)) ∧ H lv = some (.lst (d.vo.map V.str)) ∧ SgAt H sv d.sg
  rows : ∀ r ∈ d.rows, TRow H r
theorem TRow.keep {H H' : Hp} {p : Addr} {r : Use} (h : TRow H r) (st : StA H p) (s : SameB p H H') : TRow H' r :=
  ⟨s _ _ h.tp (st.no h.tp fun _ _ z => nomatch z), s _ _ h.ls (st.neS h.ls)⟩
theorem SgAt.keep {H H' : Hp} {p : Addr} {sv : V} {o : Option (List Str)} (h : SgAt H sv o) (st : StA H p) (s : SameB p H H') : SgAt H' sv o := by
  cases o with
  | none => exact h
  | some ks =>
    obtain ⟨l, e, h⟩ := h
    exact ⟨l, e, s _ _ h (st.neS h)⟩
theorem TdAt.keep {H H' : Hp} {p q : Addr} {d : Td} (h : TdAt H q d) (st : StA H p) (s : SameB p H H') : TdAt H' q d := by
  obtain ⟨⟨lr, lv, sv, e1, e2, e3, e4⟩, rs⟩ := h
  exact ⟨⟨lr, lv, sv, s _ _ e1 (st.no e1 fun _ _ z => nomatch z), s _ _ e2 (st.no e2 refs_no), s _ _ e3 (st.neS e3), e4.keep st s⟩, fun r hr => (rs r hr).keep st s⟩
theorem TdAt.same {H H' : Hp} {q : Addr} {d : Td} (h : TdAt H q d) (s : Same H H') : TdAt H' q d := by
  obtain ⟨⟨lr, lv, sv, e1, e2, e3, e4⟩, rs⟩ := h
  refine ⟨⟨lr, lv, sv, s _ _ e1, s _ _ e2, s _ _ e3, ?_⟩, fun r hr => ⟨s _ _ (rs r hr).tp, s _ _ (rs r hr).ls⟩⟩
  cases e : d.sg with
  | none => rw [e] at e4; exact e4
  | some ks =>
    rw [e] at e4
    obtain ⟨l, el, h⟩ := e4
    exact ⟨l, el, s _ _ h⟩
/-- drawn from these words -/
structure TdOk (parts keys hands : List Str) (d : Td) : Prop where
  zs : d.rows.map (·.z) = parts
  rows : ∀ r ∈ d.rows, r.u ∈ keys ∧ r.ks.Nodup ∧ ∀ k ∈ r.ks, k ∈ keys
  vo : d.vo.Sublist hands
  le : 0 ≤ d.le ∧ d.le < 3
  sg : ∀ ks, d.sg = some ks → ks.Sublist hands
def spTold (K : PySem.W.Frag) : Sp := fun vs H Q _ => ∃ (p l1 l2 l3 : Addr) (parts keys hands : List Str), vs = [.ref p, .ref l1, .ref l2, .ref l3] ∧ StA H p ∧ H l1 = some (.lst (parts.map V.str)) ∧ H l2 = some (.lst (keys.map V.str)) ∧ H l3 = some (.lst (hands.map V.str)) ∧
  parts.length ≤ 3 ∧ 0 < keys.length ∧ keys.length ≤ 50 ∧ keys.Nodup ∧ hands.length ≤ 50 ∧ ∀ q d H', TdOk parts keys hands d → H q = none → TdAt H' q d → StA H' p → SameB p H H' → Q (.ref q) H'
section
variable {P : Program} {w : World} {K : PySem.W.Frag} {mg : Str → Option Value} {base : Heap}
abbrev s_law_some : Stmt := top 26
theorem sc_law_some : FnScope ["stream", "items", "item"] ["stream", "items"] (defScope s_law_some) := ⟨rfl, rfl, rfl, by decide +kernel, rfl, by decide +kernel, by decide +kernel⟩
theorem ok_some (D : DefK K mg "_law_some" s_law_some) (G_law_draw : Cal P w K mg base CX0 1 "_law_draw" spDr) : Cal P w K mg base CX0 2 "_law_some" (spSome K) := by
  refine D.cal sc_law_some (fun _ _ _ _ _ _ us hl => match us, hl with | [_, _], _ => rfl) (fun vs H Q E h => ?_) fun f cdv A outer s H vs Q E hr h => ?_
  · unfold spSome at h
    obtain ⟨p, l, ws, rfl, _⟩ := h; rfl
  · unfold spSome at h
    obtain ⟨p, l, ws, rfl, st, el, few, k⟩ := h
    refine ⟨_, (pss_one (ps_ret (pe_lc (own := [("item", 2)]) (g := gName 2) (by rfl) sc_law_some.nd (pi_list (pv 1)) (blkOk_by (own := [("item", 2)]) (N := ["stream", "items", "item"]) (sc := defScope s_law_some) (by decide +kernel)) (fun _ _ _ _ _ => pg_name (i := 2) sc_law_some.nd rfl (Or.inl rfl)) (fun _ _ _ _ _ => (pts_one (pt_cmpR op_eq (pe_c G_law_draw hr (by decide) rfl (pa_cons (pv 0) (pa_cons pe_int pa_nil))) pe_int (nomark _)))) (fun _ _ _ _ _ => (pv 2))))), ?_⟩
    refine ⟨_, rfl, l, rfl, ⟨_, SqL.of el⟩, fun D nD => lc_list (K := K) (a := l) (xs := ws.map V.str) (fun i H' => ∃ us : List Str, H' D = some (.lst (us.map V.str)) ∧ us.Sublist (ws.take i) ∧ StA H' p ∧ SameB p H H') ⟨[], upd_same, List.nil_sublist _, st.new nD, (SameB.refl p H).new nD⟩ (fun i H' _ ⟨us, _, _, _, s⟩ => SqL.of (s _ _ el (st.neS el))) ?_ ?_⟩
    · rintro i x H' hx ⟨us, eD, sub, st', s'⟩
      obtain ⟨z, ez, rfl⟩ : ∃ z, ws[i]? = some z ∧ x = .str z := str_at hx
      have Dp := st.ne nD
      have tk : ws.take (i + 1) = ws.take i ++ [z] := by rw [List.take_succ, ez]; rfl
      refine ⟨rfl, _, rfl, use_draw st' (by decide) (by decide) fun v H2 v0 v1 st2 s2 => ⟨rfl, _, rfl, ?_⟩⟩
      rw [ne_dec]
      have eD2 := s2 _ _ eD Dp
      have len : us.length ≤ 100 := by
        have l1 := sub.length_le
        rw [List.length_take] at l1
        omega
      by_cases c : v = 0
      · rw [decide_eq_true c]
        refine iteT ⟨_, rfl, _, eD2, by rw [List.length_map, sizeLine_eq]; omega, us ++ [z], by rw [upd_same, List.map_append]; rfl, by rw [tk]; exact sub.append_right _, ?_, ?_⟩
        · obtain ⟨a, b, e, h⟩ := st2
          exact ⟨a, b, by rw [upd_ne Dp.symm]; exact e, h⟩
        · exact fun q o e n => by rw [upd_ne (ne_of_none e nD)]; exact s2 _ _ (s' _ _ e n) n
      · rw [decide_eq_false c]
        exact iteF ⟨us, eD2, by rw [tk]; exact sub.trans (List.sublist_append_left _ _), st2, s'.trans s2⟩
    · rintro H' ⟨us, eD, sub, st', s'⟩
      rw [List.length_map, List.take_length] at sub
      exact k D us H' nD sub eD st' s'
abbrev s_law_told : Stmt := top 28
theorem sc_law_told : FnScope ["stream", "parts", "keys", "hands", "rows", "part", "signing", "vouch", "least", "likes", "own"] ["stream", "parts", "keys", "hands"] (defScope s_law_told) := ⟨rfl, rfl, rfl, by decide +kernel, rfl, by decide +kernel, by decide +kernel⟩
theorem ok_told (D : DefK K mg "_law_told" s_law_told) (G_law_draw : Cal P w K mg base CX0 1 "_law_draw" spDr) (G_law_choose : Cal P w K mg base CX0 2 "_law_choose" (spCh K)) (G_law_some : Cal P w K mg base CX0 2 "_law_some" (spSome K)) : Cal P w K mg base CX0 3 "_law_told" (spTold K) := by
  refine D.cal sc_law_told (fun _ _ _ _ _ _ us hl => match us, hl with | [_, _, _, _], _ => rfl) (fun vs H Q E h => ?_) fun f cdv A outer s H vs Q E hr h => ?_
  · obtain ⟨p, l1, l2, l3, parts, keys, hands, rfl, _⟩ := h; rfl
  · obtain ⟨p, l1, l2, l3, parts, keys, hands, rfl, st, e1, e2, e3, np3, nk, k50, knd, h50, k⟩ := h
    refine ⟨_, (pss_cons (ps_set (i := 4) sc_law_told.nd rfl (Or.inl rfl) (pe_lst pa_nil))
      (pss_cons (ps_for PassesOwn.never rfl (pi_list (pv 1)) (pg_name (i := 5) sc_law_told.nd rfl (Or.inl rfl)) (pss_cons (ps_par (i := 9) (j := 10) (by rfl) sc_law_told.nd rfl rfl (by decide) rfl rfl (pa_cons (pe_c G_law_some hr (by decide) rfl (pa_cons (pv 0) (pa_cons (pv 2) pa_nil))) (pa_cons (pe_c G_law_choose hr (by decide) rfl (pa_cons (pv 0) (pa_cons (pv 2) pa_nil))) pa_nil)) (by rfl))
      (pss_cons (ps_if (PW.pt (pw_and (pt_cmpR (r := rIn K true) op_notIn_seq (pv 10) (pv 9) rfl) (pw_and1 (pt_cmpR op_gt (pe_c G_law_draw hr (by decide) rfl (pa_cons (pv 0) (pa_cons pe_int pa_nil))) pe_int (nomark _))))) (pss_one (ps_set (i := 9) sc_law_told.nd rfl (Or.inl rfl) (pe_op op_cat (pv 9) (pe_lst (pa_cons (pv 10) pa_nil))))) pss_nil)
      (pss_one (ps_expr (pe_bm F.plainAttrs_list F.slot_list_append F.type_list_append mt_append (pv 4) (pa_cons (pe_tup (pa_cons (pv 5) (pa_cons (pv 9) (pa_cons (pv 10) pa_nil)))) pa_nil)))))))
      (pss_cons (ps_par (i := 7) (j := 8) (by rfl) sc_law_told.nd rfl rfl (by decide) rfl rfl (pa_cons (pe_c G_law_some hr (by decide) rfl (pa_cons (pv 0) (pa_cons (pv 3) pa_nil))) (pa_cons (pe_c G_law_draw hr (by decide) rfl (pa_cons (pv 0) (pa_cons pe_int pa_nil))) pa_nil)) (by rfl))
      (pss_cons (ps_set (i := 6) sc_law_told.nd rfl (Or.inl rfl) (pe_ifExp (pt_cmpR op_gt (pe_c G_law_draw hr (by decide) rfl (pa_cons (pv 0) (pa_cons pe_int pa_nil))) pe_int (nomark _)) pe_non (pe_c G_law_some hr (by decide) rfl (pa_cons (pv 0) (pa_cons (pv 3) pa_nil)))))
      (pss_one (ps_ret (pe_tup (pa_cons (pv 4) (pa_cons (pv 7) (pa_cons (pv 8) (pa_cons (pv 6) pa_nil))))))))))), ?_⟩
    refine ⟨Nat.zero_le _, fun lr nlr => ?_⟩
    have stA := st.new (o := .lst []) nlr
    have sA := (SameB.refl p H).new (o := .lst []) nlr
    have lrp := st.ne nlr
    refine ⟨_, rfl, l1, rfl, ⟨_, SqL.of (sA _ _ e1 (st.neS e1))⟩, for_list (K := K) (a := l1) (xs := parts.map V.str) (fun i sg H' => ∃ v5 v6 v7 v8 v9 v10 : Option V, sg = [some (.ref p), some (.ref l1), some (.ref l2), some (.ref l3), some (.ref lr), v5, v6, v7, v8, v9, v10] ∧ ∃ rows : List Use, H' lr = some (.lst ((rows.map (·.t)).map V.ref)) ∧ rows.map (·.z) = parts.take i ∧ (∀ r ∈ rows, TRow H' r ∧ r.u ∈ keys ∧ r.ks.Nodup ∧ ∀ k ∈ r.ks, k ∈ keys) ∧ StA H' p ∧ SameB p H H')
      ⟨_, _, _, _, _, _, rfl, [], upd_same, rfl, (fun _ h => nomatch h), stA, sA⟩ (fun i sg H' _ ⟨_, _, _, _, _, _, _, _, _, _, _, _, s⟩ => SqL.of (s _ _ e1 (st.neS e1))) ?_ ?_⟩
    · rintro i x sg H' hx ⟨v5, v6, v7, v8, v9, v10, rfl, rows, elr, zs, rok, st', s'⟩
      obtain ⟨z, ez, rfl⟩ := str_at hx
      have k2 := s' _ _ e2 (st.neS e2)
      refine ⟨_, rfl, _, rfl, use_some st' k2 (by omega) fun la us Ha nla sub ela sta sa => ?_⟩
      have k3 := sa _ _ k2 (st'.neS k2)
      refine ⟨_, rfl, _, rfl, use_choose sta (SqL.of k3) (sta.neS k3) (by rw [List.length_map]; exact nk) (by rw [List.length_map]; omega) fun v Hb hv stb sb => ⟨_, _, rfl, ?_⟩⟩
      obtain ⟨u, hu, rfl⟩ := str_mem hv
      have sab := sa.trans sb
      have elb := sb _ _ ela (sta.neS ela)
      have lr2 := sab _ _ elr (st'.no elr refs_no)
      have nd := knd.sublist sub
      have len : us.length ≤ 50 := Nat.le_trans sub.length_le k50
      have tk : parts.take (i + 1) = parts.take i ++ [z] := by rw [List.take_succ, ez]; rfl
      have rl : rows.length ≤ 3 := by
        have l := congrArg List.length zs
        rw [List.length_map, List.length_take] at l
        omega
      -- the row is put behind the others
      have fin : ∀ (l9 : Addr) (us' : List Str) (Hc : Hp), Hc l9 = some (.lst (us'.map V.str)) → l9 ≠ lr → us'.Nodup → (∀ k ∈ us', k ∈ keys) → StA Hc p → SameB p H' Hc →
          ∀ t, Hc t = none → ∃ rows2 : List Use, upd (upd Hc t (.tup [.str z, .ref l9, .str u])) lr (.lst ((rows.map (·.t)).map V.ref ++ [.ref t])) lr = some (.lst ((rows2.map (·.t)).map V.ref)) ∧ rows2.map (·.z) = parts.take (i + 1) ∧
            (∀ r ∈ rows2, TRow (upd (upd Hc t (.tup [.str z, .ref l9, .str u])) lr (.lst ((rows.map (·.t)).map V.ref ++ [.ref t]))) r ∧ r.u ∈ keys ∧ r.ks.Nodup ∧ ∀ k ∈ r.ks, k ∈ keys) ∧ StA (upd (upd Hc t (.tup [.str z, .ref l9, .str u])) lr (.lst ((rows.map (·.t)).map V.ref ++ [.ref t]))) p ∧
            SameB p H (upd (upd Hc t (.tup [.str z, .ref l9, .str u])) lr (.lst ((rows.map (·.t)).map V.ref ++ [.ref t]))) := by
        intro l9 us' Hc e9 n9 nd' in' stc sc t nt
        have lrc := sc _ _ elr (st'.no elr refs_no)
        have tp := stc.ne nt
        have tlr : t ≠ lr := fun e => by rw [e, lrc] at nt; cases nt
        have stay : ∀ q o, Hc q = some o → q ≠ lr → upd (upd Hc t (.tup [.str z, .ref l9, .str u])) lr (.lst ((rows.map (·.t)).map V.ref ++ [.ref t])) q = some o := fun q o e n => by
          rw [upd_ne n, upd_ne (ne_of_none e nt)]; exact e
        have nlr' : ∀ {q : Addr} {ws : List Str}, Hc q = some (.lst (ws.map V.str)) → (q = lr → rows = []) := fun {q ws} e h => by
          rw [h, lrc] at e
          injection e with e; injection e with e
          cases rows with
          | nil => rfl
          | cons a b =>
            cases ws with
            | nil => cases e
            | cons c d => injection e with e1 e2; cases e1
        refine ⟨rows ++ [⟨z, t, l9, us', u⟩], by rw [upd_same, List.map_append, List.map_append]; rfl, by rw [List.map_append, zs, tk]; rfl, fun r hr => ?_, ?_, fun q o e n => ?_⟩
        · rcases List.mem_append.mp hr with hr | hr
          · obtain ⟨R, r2⟩ := rok r hr
            have R2 := R.keep st' sc
            refine ⟨⟨stay _ _ R2.tp fun e => ?_, stay _ _ R2.ls fun e => ?_⟩, r2⟩
            · have := R2.tp; rw [e, lrc] at this; cases this
            · have := nlr' R2.ls e
              rw [this] at hr; cases hr
          · obtain rfl := List.mem_singleton.mp hr
            exact ⟨⟨by rw [upd_ne tlr, upd_same], stay _ _ e9 n9⟩, hu, nd', in'⟩
        · obtain ⟨a, b, e, h⟩ := stc
          exact ⟨a, b, stay _ _ e lrp.symm, h⟩
        · refine stay _ _ (sc _ _ (s' _ _ e n) n) fun eq => ?_
          rw [eq, nlr] at e; cases e
      refine ⟨_, rfl, _, rfl, ask_notInS (SqL.of elb) ⟨_, rfl, ?_⟩⟩
      by_cases c : u ∈ us
      · rw [decide_eq_true c]
        refine iteF (iteF ?_)
        exact ⟨_, rfl, .inl ⟨rfl, _, .inl (.inl lr2)⟩, _, rfl, _, rfl, _, rfl, by show 3 ≤ sizeLine; decide, fun t nt => ⟨lr, _, _, rfl, rfl, by rw [upd_ne (ne_of_none lr2 nt)]; exact lr2, by rw [List.length_map, List.length_map, sizeLine_eq]; omega, _, _, _, _, _, _, rfl, fin la us Hb elb (ne_of_none elr nla).symm nd (fun k hk => sub.subset hk) stb sab t nt⟩⟩
      · rw [decide_eq_false c]
        refine iteT ⟨_, rfl, use_draw stb (by decide) (by decide) fun v Hc v0 v1 stc sc => ⟨_, _, rfl, rfl, _, rfl, ?_⟩⟩
        have elc := sc _ _ elb (stb.neS elb)
        have lr3 := sc _ _ lr2 (stb.no lr2 refs_no)
        have sac := sab.trans sc
        by_cases c2 : 0 < v
        · rw [decide_eq_true c2]
          refine iteT ⟨_, rfl, _, rfl, by show 1 ≤ sizeLine; decide, fun l6 n6 => ⟨la, l6, _, _, rfl, rfl, by rw [upd_ne (ne_of_none elc n6)]; exact elc, upd_same, by rw [List.length_map, sizeLine_eq]; show us.length + 1 ≤ _; omega, fun l7 n7 => ?_⟩⟩
          have s7 := same_new' (same_new (o := .lst [V.str u]) n6) (o := .lst (us.map V.str ++ [V.str u])) n7
          have e7 : upd (upd Hc l6 (.lst [V.str u])) l7 (.lst (us.map V.str ++ [V.str u])) l7 = some (.lst ((us ++ [u]).map V.str)) := by rw [upd_same, List.map_append]; rfl
          have n7c : l7 ≠ lr := fun e => by
            rw [e, upd_ne (ne_of_none lr3 n6), lr3] at n7; cases n7
          generalize upd (upd Hc l6 (.lst [V.str u])) l7 (.lst (us.map V.str ++ [V.str u])) = Hd at *
          have lr4 := s7 _ _ lr3
          have nd2 : (us ++ [u]).Nodup := by
            rw [List.nodup_append]
            exact ⟨nd, by simp, fun a ha b hb => by rw [List.mem_singleton.mp hb]; exact fun e => c (e ▸ ha)⟩
          exact ⟨_, rfl, .inl ⟨rfl, _, .inl (.inl lr4)⟩, _, rfl, _, rfl, _, rfl, by show 3 ≤ sizeLine; decide, fun t nt => ⟨lr, _, _, rfl, rfl, by rw [upd_ne (ne_of_none lr4 nt)]; exact lr4, by rw [List.length_map, List.length_map, sizeLine_eq]; omega, _, _, _, _, _, _, rfl, fin l7 (us ++ [u]) Hd e7 n7c nd2 (fun k hk => (List.mem_append.mp hk).elim (fun h => sub.subset h) fun h => by rw [List.mem_singleton.mp h]; exact hu) (stc.keep s7) (sac.trans (.of s7)) t nt⟩⟩
        · rw [decide_eq_false c2]
          refine iteF ?_
          exact ⟨_, rfl, .inl ⟨rfl, _, .inl (.inl lr3)⟩, _, rfl, _, rfl, _, rfl, by show 3 ≤ sizeLine; decide, fun t nt => ⟨lr, _, _, rfl, rfl, by rw [upd_ne (ne_of_none lr3 nt)]; exact lr3, by rw [List.length_map, List.length_map, sizeLine_eq]; omega, _, _, _, _, _, _, rfl, fin la us Hc elc (ne_of_none elr nla).symm nd (fun k hk => sub.subset hk) stc sac t nt⟩⟩
    · rintro sg H' ⟨v5, v6, v7, v8, v9, v10, rfl, rows, elr, zs, rok, st', s'⟩
      rw [List.length_map, List.take_length] at zs
      have h3 := s' _ _ e3 (st.neS e3)
      refine ⟨_, rfl, _, rfl, use_some st' h3 (by omega) fun lv vo Ha nlv subv elv sta sa => ?_⟩
      refine ⟨_, rfl, use_draw sta (by decide) (by decide) fun le Hb l0 l3' stb sb => ⟨_, _, rfl, ?_⟩⟩
      refine ⟨_, rfl, use_draw stb (by decide) (by decide) fun y Hc y0 y1 stc sc => ⟨_, _, rfl, rfl, _, rfl, ?_⟩⟩
      have sac := sa.trans (sb.trans sc)
      have sHc := s'.trans sac
      have lr3 := sac _ _ elr (st'.no elr refs_no)
      have lv3 := (sb.trans sc) _ _ elv (sta.neS elv)
      have rok3 : ∀ r ∈ rows, TRow Hc r ∧ r.u ∈ keys ∧ r.ks.Nodup ∧ ∀ k ∈ r.ks, k ∈ keys := fun r hr => ⟨(rok r hr).1.keep st' sac, (rok r hr).2⟩
      -- the end
      have fin : ∀ (Hd : Hp) (sv : V) (sg : Option (List Str)), SgAt Hd sv sg → (∀ ks, sg = some ks → ks.Sublist hands) → StA Hd p → SameB p Hc Hd → ∀ t, Hd t = none → Q (.ref t) (upd Hd t (.tup [.ref lr, .ref lv, .int le, sv])) := by
        intro Hd sv sgo sat sub std sd t nt
        have sHd := sHc.trans sd
        have tp := std.ne nt
        have sn := same_new (o := .tup [.ref lr, .ref lv, .int le, sv]) nt
        refine k t ⟨rows, vo, le, sgo⟩ _ ⟨zs, fun r hr => (rok3 r hr).2, subv, ⟨l0, l3'⟩, sub⟩ (sHd.free nt tp) ⟨⟨lr, lv, sv, upd_same, sn _ _ (sd _ _ lr3 (stc.no lr3 refs_no)), sn _ _ (sd _ _ lv3 (stc.neS lv3)), ?_⟩, fun r hr => ?_⟩ (std.new nt) (sHd.new nt)
        · cases sgo with
          | none => exact sat
          | some ks =>
            obtain ⟨l, e, h⟩ := sat
            exact ⟨l, e, sn _ _ h⟩
        · have R := (rok3 r hr).1.keep stc sd
          exact ⟨sn _ _ R.tp, sn _ _ R.ls⟩
      by_cases c : 0 < y
      · rw [decide_eq_true c]
        refine iteT ⟨_, rfl, _, rfl, _, rfl, _, rfl, by show 4 ≤ sizeLine; decide, fun t nt => fin Hc .non none rfl (fun _ h => nomatch h) stc (SameB.refl _ _) t nt⟩
      · rw [decide_eq_false c]
        have h4 := sac _ _ h3 (st'.neS h3)
        refine iteF ⟨_, rfl, _, rfl, use_some stc h4 (by omega) fun ls sk Hd nls subs els std sd => ⟨_, rfl, _, rfl, _, rfl, _, rfl, by show 4 ≤ sizeLine; decide, fun t nt => fin Hd (.ref ls) (some sk) ⟨ls, rfl, els⟩ (fun ks h => by cases h; exact subs) std sd t nt⟩⟩
end

end K08

namespace K08
open PySem PySem.Spec PyProof.Rows L2 Jg
local macro_rules | `(tactic| walk_at "rd1") => `(tactic| (first
  | refine ⟨_, rfl, ?_⟩
  | refine ⟨_, _, rfl, rfl, ?_⟩
  | refine ⟨_, _, rfl, ?_⟩
  | refine ⟨rfl, ?_⟩
  | (refine ⟨show (0 : Int) < _ by omega, ?_⟩)
  | (refine ⟨Or.inl ⟨by omega, by omega⟩, ?_⟩)
  | (refine ⟨Or.inr ⟨by omega, by omega⟩, ?_⟩)
  | (refine ⟨(⟨by decide, by decide, by decide⟩ : CPow _ _), ?_⟩)
  | refine Or.inl ⟨_, rfl, ?_⟩
  | refine Or.inr ⟨_, rfl, ?_⟩
  | fail "rd"))
local macro_rules | `(tactic| walk_at "rd") => `(tactic| repeat' walk_at "rd1")


/-! ### keys that are left; contents that are taken -/
def spKList (K : PySem.W.Frag) : Sp := fun vs H Q _ => ∃ y, vs = [y] ∧
  ((∃ a xs, y = .ref a ∧ H a = some (.lst xs) ∧ xs.length ≤ 500 ∧ (∀ x ∈ xs, ItOk K H x) ∧ ∀ H', Same H H' → Q (.bl (xs.all flagV)) H') ∨ (∃ t, TyX K H y t ∧ kit K t "list" false ∧ Q (.bl false) H))
def spRem (K : PySem.W.Frag) : Sp := fun vs H Q _ => ∃ (a b : Addr) (ks ls : List Str), vs = [.ref a, .ref b] ∧ SqL K H a (ks.map V.str) ∧ SqL K H b (ls.map V.str) ∧ ks.length ≤ 500 ∧ ∀ p, H p = none → Q (.ref p) (upd H p (.lst ((ks.filter fun k => !decide (k ∈ ls)).map V.str)))
/-- how many of the second's signers the first takes -/
def takesB (c e : Ct) : Bool := decide (c.ne ≤ ((e.si.filter fun k => decide (k ∈ c.vo)).length : Int))
def spTakes (C : Addr) : Sp := fun vs H Q _ => ∃ x y c e S S', vs = [.ref x, .ref y] ∧ CAt S C H x c ∧ CAt S' C H y e ∧ e.si.length ≤ 500 ∧ ∀ H', Same H H' → Q (.bl (takesB c e)) H'
theorem flat_strs {ks : List Str} : (ks.map V.str).all flatV = true := List.all_eq_true.mpr fun x hx => by
  obtain ⟨k, _, rfl⟩ := List.mem_map.mp hx
  rfl
theorem fil_take {ks : List Str} {i : Nat} {z : Str} (hz : ks[i]? = some z) (p : Str → Bool) : (ks.take (i + 1)).filter p = (ks.take i).filter p ++ (if p z = true then [z] else []) := by
  have tk : ks.take (i + 1) = ks.take i ++ [z] := by rw [List.take_succ, hz]; rfl
  rw [tk, List.filter_append]
  congr 1
  rw [List.filter_cons, List.filter_nil]
theorem fil_few {ks : List Str} {i : Nat} (p : Str → Bool) (few : ks.length ≤ 500) : ((((ks.take i).filter p).map V.str)).length < sizeLine := by
  rw [List.length_map, sizeLine_eq]
  have h1 := List.length_filter_le p (ks.take i)
  rw [List.length_take] at h1
  omega
section
variable {P : Program} {w : World} {K : PySem.W.Frag} {mg : Str → Option Value} {base : Heap} {C CI CU CK : Addr}
abbrev s_InvalidKeys_init : Stmt := inClass (top 4) 0
theorem sc_InvalidKeys_init : FnScope ["self", "value"] ["self", "value"] (defScope s_InvalidKeys_init) := ⟨rfl, rfl, rfl, by decide +kernel, rfl, by decide +kernel, by decide +kernel⟩
theorem ok_ckinit (D : ExnQ K mg "InvalidKeys" CK "InvalidKeys.__init__" s_InvalidKeys_init "value") : ExnB P w K mg base 1 "InvalidKeys" CK (spX CK "value") := by
  obtain ⟨fI, fd, F, a, ty⟩ := D.ini
  refine ⟨D.mg_, D.ovr, fI, fd, _, F.ok sc_InvalidKeys_init (fun vs H Q E h => ?_) (fun cdv A outer s H vs Q E hr h => ?_), a, ty, F.binds (fun _ _ _ _ _ _ us hl => match us, hl with | [_, _], _ => rfl)⟩
  · obtain ⟨a, y, rfl, _⟩ := h; rfl
  · obtain ⟨a, y, rfl, ha, k⟩ := h
    exact ⟨_, (pss_one (ps_keep (pv 0) (pv 1))), _, rfl, _, rfl, a, CK, rfl, D.ovr, D.no, ha, fun dx n e => k dx n e⟩
abbrev s_is_key_list : Stmt := top 9
theorem sc_is_key_list : FnScope ["value", "key"] ["value"] (defScope s_is_key_list) := ⟨rfl, rfl, rfl, by decide +kernel, rfl, by decide +kernel, by decide +kernel⟩
theorem ok_klist (D : DefK K mg "is_key_list" s_is_key_list) (T : Txt K mg) (G_is_word : Cal P w K mg base CX0 1 "is_word" (spWord K)) : Cal P w K mg base CX0 2 "is_key_list" (spKList K) := by
  refine D.cal sc_is_key_list (fun _ _ _ _ _ _ us hl => match us, hl with | [_], _ => rfl) (fun vs H Q E h => ?_) fun f cdv A outer s H vs Q E hr h => ?_
  · obtain ⟨y, rfl, _⟩ := h; rfl
  · obtain ⟨y, rfl, h⟩ := h
    refine ⟨_, (pss_one (ps_ret (pe_and (pe_callB call_isi (by rfl) T.b_isinstance (by decide +kernel) (pa_cons (pv 0) (pa_cons (pe_ty (n := "list") (by rfl) T.b_list (by decide +kernel)) pa_nil))) (pe_one (pe_callB (cr_all rfl) (by rfl) T.b_all (by decide +kernel) (pa_cons (pe_lc (own := [("key", 1)]) (g := gName 1) (by rfl) sc_is_key_list.nd (pi_list (pv 0)) (blkOk_by (own := [("key", 1)]) (N := ["value", "key"]) (sc := defScope s_is_key_list) (by decide +kernel)) (fun _ _ _ _ _ => pg_name (i := 1) sc_is_key_list.nd rfl (Or.inl rfl)) (fun _ _ _ _ _ => pts_nil) (fun _ _ _ _ _ => (pe_c G_is_word hr (by decide) rfl (pa_cons (pv 1) pa_nil)))) pa_nil)))))), ?_⟩
    rcases h with ⟨a, xs, rfl, ea, few, its, k⟩ | ⟨t, ty, kt, q⟩
    · refine ⟨_, rfl, .ref a, .ty "list", _, _, true, rfl, .ty "list", .base (.lst ea), kit_ty (by decide +kernel), true, rfl, iteT ?_⟩
      refine ⟨_, rfl, a, rfl, ⟨_, SqL.of ea⟩, fun D nD => ?_⟩
      refine lc_list (K := K) (a := a) (xs := xs) (fun i H' => Same H H' ∧ H' D = some (.lst ((xs.take i).map fun x => V.bl (flagV x)))) ⟨same_new nD, upd_same⟩ (fun _ H' _ z => SqL.of (z.1 _ _ ea)) ?_ ?_
      · intro i x H' hx ⟨s2, eD⟩
        have tk : xs.take (i + 1) = xs.take i ++ [x] := by rw [List.take_succ, hx]; rfl
        have up : Same H (upd H' D (.lst (((xs.take i).map fun x => V.bl (flagV x)) ++ [V.bl (flagV x)]))) := fun c o e => by rw [upd_ne (ne_of_none e nD)]; exact s2 c o e
        have eq : upd H' D (.lst (((xs.take i).map fun x => V.bl (flagV x)) ++ [V.bl (flagV x)])) D = some (.lst ((xs.take (i + 1)).map fun x => V.bl (flagV x))) := by rw [upd_same, tk, List.map_append]; rfl
        have sz : ((xs.take i).map fun x => V.bl (flagV x)).length < sizeLine := by
          rw [List.length_map, List.length_take, sizeLine_eq]; omega
        refine ⟨rfl, yes_if ⟨_, rfl, x, rfl, ?_⟩⟩
        rcases (its x (List.mem_of_getElem? hx)).keep s2 with ⟨z, rfl, hz⟩ | ⟨t, ty2, k2, nz⟩
        · exact .inl ⟨z, rfl, hz, _, eD, sz, up, eq⟩
        · have fl : flagV x = false := by
            cases x with
            | str z => exact absurd rfl (nz z)
            | _ => rfl
          rw [fl] at up eq
          exact .inr ⟨t, ty2 _ (Same.refl _), k2, _, eD, sz, up, eq⟩
      · rintro H' ⟨s2, eD⟩
        rw [List.take_length] at eD
        have mm : (xs.map flagV).map V.bl = xs.map fun x => V.bl (flagV x) := by rw [List.map_map]; rfl
        have al : (xs.map flagV).all id = xs.all flagV := by rw [List.all_map]; rfl
        exact ⟨D, xs.map flagV, rfl, SqL.of (by rw [mm]; exact eD), by rw [al]; exact k _ s2⟩
    · exact ⟨_, rfl, y, .ty "list", t, _, false, rfl, .ty "list", ty, kt, false, rfl, iteF q⟩
abbrev s_remaining : Stmt := top 20
theorem sc_remaining : FnScope ["keys", "lost", "key"] ["keys", "lost"] (defScope s_remaining) := ⟨rfl, rfl, rfl, by decide +kernel, rfl, by decide +kernel, by decide +kernel⟩
theorem ok_rem (D : DefK K mg "_remaining" s_remaining) : Cal P w K mg base CX0 1 "_remaining" (spRem K) := by
  refine D.cal sc_remaining (fun _ _ _ _ _ _ us hl => match us, hl with | [_, _], _ => rfl) (fun vs H Q E h => ?_) fun f cdv A outer s H vs Q E hr h => ?_
  · obtain ⟨a, b, ks, ls, rfl, _⟩ := h; rfl
  · obtain ⟨a, b, ks, ls, rfl, ha, hb, few, k⟩ := h
    refine ⟨_, (pss_one (ps_ret (pe_lc (own := [("key", 2)]) (g := gName 2) (by rfl) sc_remaining.nd (pi_list (pv 0)) (blkOk_by (own := [("key", 2)]) (N := ["keys", "lost", "key"]) (sc := defScope s_remaining) (by decide +kernel)) (fun _ _ _ _ _ => pg_name (i := 2) sc_remaining.nd rfl (Or.inl rfl)) (fun _ _ _ _ _ => (pts_one (pt_cmpR (r := rIn K true) op_notIn_seq (pv 2) (pv 1) rfl))) (fun _ _ _ _ _ => (pv 2))))), ?_⟩
    refine ⟨_, rfl, a, rfl, ⟨_, ha⟩, fun D nD => ?_⟩
    have sq : ∀ {l : Addr} {xs : List V} {o : HO}, SqL K H l xs → SqL K (upd H D o) l xs := fun h => (same_new nD).seq h
    refine lc_list (K := K) (a := a) (xs := ks.map V.str) (fun i H' => H' = upd H D (.lst (((ks.take i).filter fun k => !decide (k ∈ ls)).map V.str))) rfl (fun _ H' _ z => by rw [z]; exact sq ha) ?_ ?_
    · rintro i x H' hx rfl
      obtain ⟨z, hz, rfl⟩ := str_at hx
      have tk : ks.take (i + 1) = ks.take i ++ [z] := by rw [List.take_succ, hz]; rfl
      refine ⟨rfl, ?_⟩
      refine ⟨_, rfl, _, rfl, b, _, rfl, .inl (sq hb), rfl, flat_strs, _, rfl, ?_⟩
      show if (!inV (V.str z) (ls.map V.str)) = true then _ else _
      rw [inV_strs]
      by_cases c : z ∈ ls
      · rw [decide_eq_true c]
        refine iteF ?_
        rw [fil_take hz, decide_eq_true c]
        show _ = upd H D (.lst ((((ks.take i).filter fun k => !decide (k ∈ ls)) ++ []).map V.str))
        rw [List.append_nil]
      · rw [decide_eq_false c]
        refine iteT ⟨_, rfl, _, upd_same, fil_few _ few, ?_⟩
        rw [upd_upd, fil_take hz, decide_eq_false c, List.map_append]; rfl
    · intro H' e
      rw [List.length_map, List.take_length] at e
      rw [e]
      exact k D nD
abbrev s_Contents_takes : Stmt := inClass (top 21) 10
theorem sc_Contents_takes : FnScope ["self", "other", "known", "key"] ["self", "other"] (defScope s_Contents_takes) := ⟨rfl, rfl, rfl, by decide +kernel, rfl, by decide +kernel, by decide +kernel⟩
theorem ok_ctakes (D : MetK K C "takes" "Contents.takes" s_Contents_takes) (T : Txt K mg) (J : CTx K mg C) : Met P w K mg base CX0 1 C "takes" (spTakes C) := by
  refine D.met sc_Contents_takes (fun _ _ _ _ _ _ us hl => match us, hl with | [_, _], _ => rfl) (fun vs H Q E h => ?_) fun f cdv A outer s H vs Q E hr h => ?_
  · obtain ⟨x, y, c, e, S, S', rfl, _⟩ := h; rfl
  · obtain ⟨x, y, c, e, S, S', rfl, ac, ae, few, k⟩ := h
    refine ⟨_, (pss_cons (ps_setLc (i := 2) (own := [("key", 3)]) (g := gName 3) (by rfl) sc_Contents_takes.nd rfl rfl (sw_true rfl rfl rfl (by decide +kernel)) (pi_list (pe_fld (pv 1) rfl)) (blkOk_by (own := [("key", 3)]) (N := ["self", "other", "known", "key"]) (sc := defScope s_Contents_takes) (by decide +kernel)) (fun _ _ _ _ _ => pg_name (i := 3) sc_Contents_takes.nd rfl (Or.inl rfl)) (fun _ _ _ _ _ => (pts_one (pt_cmpR (r := rIn K false) op_in_seq (pv 3) (show PE _ _ (tFld K (tVar 0) "_vouchers") from pe_fld (pv 0) rfl) rfl))) (fun _ _ _ _ _ => (pv 3)))
      (pss_one (ps_ret (pe_cmpR op_ge (pe_callB call_len_seq (by rfl) T.b_len (by decide +kernel) (pa_cons (pv 2) pa_nil)) (pe_fld (pv 0) rfl) (nomark _))))), ?_⟩
    obtain ⟨⟨dx, d, v, sg, e1, e2, e3, e4, _⟩, us⟩ := id ac
    obtain ⟨⟨dx', d', v', sg', f1, f2, f3, f4, _⟩, us'⟩ := id ae
    refine ⟨_, rfl, y, C, dx', _, _, rfl, f1, J.cl, J.ns, get_s _ _ _ _, sg', rfl, ⟨_, SqL.of f4⟩, fun D nD => ?_⟩
    have sq : ∀ {l : Addr} {xs : List V} {o : HO}, SqL K H l xs → SqL K (upd H D o) l xs := fun h => (same_new nD).seq h
    refine lc_list (K := K) (a := sg') (xs := e.si.map V.str) (fun i H' => H' = upd H D (.lst (((e.si.take i).filter fun k => decide (k ∈ c.vo)).map V.str))) rfl (fun _ H' _ z => by rw [z]; exact sq (SqL.of f4)) ?_ ?_
    · rintro i x' H' hx rfl
      obtain ⟨z, hz, rfl⟩ := str_at hx
      refine ⟨rfl, ?_⟩
      refine ⟨_, rfl, _, rfl, x, C, dx, _, _, rfl, same_new nD _ _ e1, J.cl, J.nv, get_v _ _ _ _, v, _, rfl, .inl (sq (SqL.of e3)), rfl, flat_strs, _, rfl, ?_⟩
      show if inV (V.str z) (c.vo.map V.str) = true then _ else _
      rw [inV_strs]
      by_cases cc : z ∈ c.vo
      · rw [decide_eq_true cc]
        refine iteT ⟨_, rfl, _, upd_same, fil_few _ few, ?_⟩
        rw [upd_upd, fil_take hz, decide_eq_true cc, List.map_append]; rfl
      · rw [decide_eq_false cc]
        refine iteF ?_
        rw [fil_take hz, decide_eq_false cc]
        show _ = upd H D (.lst ((((e.si.take i).filter fun k => decide (k ∈ c.vo)) ++ []).map V.str))
        rw [List.append_nil]
    · intro H' eH
      rw [List.length_map, List.take_length] at eH
      subst eH
      have q := k _ (same_new (o := .lst ((e.si.filter fun k => decide (k ∈ c.vo)).map V.str)) nD)
      unfold takesB at q
      rw [← List.length_map (as := e.si.filter fun k => decide (k ∈ c.vo)) V.str] at q
      exact ⟨_, rfl, D, _, rfl, .inl (SqL.of upd_same), _, rfl, x, C, dx, _, _, rfl, same_new nD _ _ e1, J.cl, J.nn, get_n _ _ _ _, _, _, rfl, rfl, q⟩
end

end K08

namespace K08
open PySem PySem.Spec PyProof.Rows L2 Jg
local macro_rules | `(tactic| walk_at "rd1") => `(tactic| (first
  | refine ⟨_, rfl, ?_⟩
  | refine ⟨_, _, rfl, rfl, ?_⟩
  | refine ⟨_, _, rfl, ?_⟩
  | refine ⟨rfl, ?_⟩
  | (refine ⟨show (0 : Int) < _ by omega, ?_⟩)
  | (refine ⟨Or.inl ⟨by omega, by omega⟩, ?_⟩)
  | (refine ⟨Or.inr ⟨by omega, by omega⟩, ?_⟩)
  | (refine ⟨(⟨by decide, by decide, by decide⟩ : CPow _ _), ?_⟩)
  | refine Or.inl ⟨_, rfl, ?_⟩
  | refine Or.inr ⟨_, rfl, ?_⟩
  | fail "rd"))
local macro_rules | `(tactic| walk_at "rd") => `(tactic| repeat' walk_at "rd1")


/-! ### contents that are changed: rows -/
theorem keysB_ok {ks : List Str} {m : Int} (nd : ks.Nodup) (le : (ks.length : Int) ≤ m) (wd : ∀ k ∈ ks, wordB k = true) : keysB (ks.map V.str) m = true := by
  unfold keysB
  have e : (ks.map V.str).map txV = ks := by rw [List.map_map]; exact (List.map_congr_left fun _ _ => rfl).trans (List.map_id ks)
  rw [e, List.length_map, (once_perm nd).length_eq, decide_eq_true rfl, decide_eq_false (by omega)]
  have z : (ks.map V.str).all flagV = true := List.all_eq_true.mpr fun x hx => by
    obtain ⟨k, hk, rfl⟩ := List.mem_map.mp hx
    exact wd k hk
  rw [z]; rfl
theorem KsOk.keys {ks : List Str} {m : Nat} (h : KsOk ks m) {n : Int} (le : (m : Int) ≤ n) : keysB (ks.map V.str) n = true := keysB_ok h.nd (by have := h.le; omega) h.w
theorem KsOk.srt {ks : List Str} {m : Nat} (h : KsOk ks m) : srtW ks = ks := (srt_eq h.so (List.Perm.refl _)).symm
def rowU (q : Use) : Row := ⟨q.z, q.t, q.a, true, q.ks, q.u⟩
def rowT (q : Row) : Str × List Str × Str := (q.z, srtW q.ks, q.u)
theorem dictU_rows (us : List Use) : dictU us = dictOf (us.map rowU) := by unfold dictU dictOf; rw [List.map_map]; rfl
theorem put_map {us : List Use} {z : Str} {v : V} (h : z ∈ us.map (·.z)) : putK (dictU us) (Sum.inr z) v = us.map fun q => (Sum.inr q.z, if q.z = z then v else V.ref q.t) := by
  unfold putK
  have a : ((dictU us).any fun kv => decide (kv.1 = Sum.inr z)) = true := by
    obtain ⟨q, hq, e⟩ := List.mem_map.mp h
    exact List.any_eq_true.mpr ⟨(Sum.inr q.z, V.ref q.t), List.mem_map_of_mem (f := fun r : Use => ((Sum.inr r.z : Key), V.ref r.t)) hq, decide_eq_true (by rw [← e])⟩
  rw [if_pos a]
  unfold dictU
  rw [List.map_map]
  refine List.map_congr_left fun q _ => ?_
  show (if (Sum.inr q.z : Key) = Sum.inr z then ((Sum.inr q.z : Key), v) else (Sum.inr q.z, V.ref q.t)) = _
  by_cases c : q.z = z
  · rw [if_pos c, if_pos (by rw [c])]
  · rw [if_neg c, if_neg (fun e => c (Sum.inr.inj e))]
def setR (us : List Use) (n : Row) : List Row := us.map fun q => if q.z = n.z then n else rowU q
theorem set_dict {us : List Use} {n : Row} : (us.map fun q => ((Sum.inr q.z : Key), if q.z = n.z then V.ref n.t else V.ref q.t)) = dictOf (setR us n) := by
  unfold dictOf setR
  rw [List.map_map]
  refine List.map_congr_left fun q _ => ?_
  show ((Sum.inr q.z : Key), if q.z = n.z then V.ref n.t else V.ref q.t) = ((Sum.inr (if q.z = n.z then n else rowU q).z : Key), V.ref (if q.z = n.z then n else rowU q).t)
  by_cases c : q.z = n.z
  · rw [if_pos c, if_pos c, c]
  · rw [if_neg c, if_neg c]; rfl
theorem setR_zs {us : List Use} {n : Row} : (setR us n).map (·.z) = us.map (·.z) := by
  unfold setR
  rw [List.map_map]
  refine List.map_congr_left fun q _ => ?_
  show (if q.z = n.z then n else rowU q).z = q.z
  by_cases c : q.z = n.z
  · rw [if_pos c, c]
  · rw [if_neg c]; rfl
theorem setR_mem {us : List Use} {n r : Row} (h : r ∈ setR us n) : r = n ∨ ∃ q ∈ us, r = rowU q := by
  obtain ⟨q, hq, e⟩ := List.mem_map.mp h
  by_cases c : q.z = n.z
  · rw [if_pos c] at e; exact .inl e.symm
  · rw [if_neg c] at e; exact .inr ⟨q, hq, e.symm⟩
theorem zip_eq {α β γ δ : Type} {f : α → γ} {g : β → γ} {h1 : α → δ} {h2 : β → δ} : ∀ {l1 : List α} {l2 : List β}, l1.map f = l2.map g → (l2.map g).Nodup → (∀ a ∈ l1, ∃ b ∈ l2, g b = f a ∧ h1 a = h2 b) → l1.map h1 = l2.map h2
  | [], [], _, _, _ => rfl
  | [], b :: l2, e, _, _ => by cases e
  | a :: l1, [], e, _, _ => by cases e
  | a :: l1, b :: l2, e, nd, k => by
    rw [List.map_cons, List.map_cons] at e
    injection e with e1 e2
    rw [List.map_cons, List.nodup_cons] at nd
    have hd : h1 a = h2 b := by
      obtain ⟨b', hb, q1, q2⟩ := k a List.mem_cons_self
      rcases List.mem_cons.mp hb with rfl | hb
      · exact q2
      · exact absurd (List.mem_map.mpr ⟨b', hb, by rw [q1, e1]⟩) nd.1
    rw [List.map_cons, List.map_cons, hd]
    congr 1
    refine zip_eq e2 nd.2 fun a' ha => ?_
    obtain ⟨b', hb, q1, q2⟩ := k a' (List.mem_cons_of_mem _ ha)
    rcases List.mem_cons.mp hb with rfl | hb
    · have z : f a' ∈ l2.map g := e2 ▸ List.mem_map_of_mem ha
      rw [← q1] at z
      exact absurd z nd.1
    · exact ⟨b', hb, q1, q2⟩
/-- what was made of rows in order -/
theorem made_tri {rows : List Row} {vks sks : List Str} {ne : Int} {c : Ct} (m : Made rows vks ne sks c) (so : sortedS (rows.map (·.z)) = true) (nd : (rows.map (·.z)).Nodup) : c.us.map tri = rows.map rowT := by
  refine zip_eq (f := fun r : Use => r.z) (g := fun r : Row => r.z) (m.zs.trans (srt_eq so (List.Perm.refl _)).symm) nd fun r hr => ?_
  obtain ⟨q, hq, e1, e2, e3⟩ := m.us r hr
  exact ⟨q, hq, e1, by show (r.z, r.ks, r.u) = (q.z, srtW q.ks, q.u); rw [e1, e2, e3]⟩
theorem UAt.row {K : PySem.W.Frag} {S : Addr → Prop} {H H' : Hp} {q : Use} {d : Addr} (h : UAt S H q) (ok : KsOk q.ks 8 ∧ wordB q.z = true ∧ wordB q.u = true) (s : Same H H') (nd : H d = none) : RowOk K d H' (rowU q) :=
  ⟨s _ _ h.tp, ne_of_none h.tp nd, ne_of_none h.ls nd, SqL.of (s _ _ h.ls), fun H2 s2 => .base (.lst (s2 _ _ (s _ _ h.ls) (ne_of_none h.ls nd))), by have := ok.1.le; show q.ks.length ≤ 500; omega, fun k hk => word_size (ok.1.w k hk), word_size ok.2.1, word_size ok.2.2⟩
theorem rowU_b {q : Use} (ok : KsOk q.ks 8 ∧ wordB q.z = true ∧ wordB q.u = true) : rowB (rowU q) = true := by
  show (wordB q.z && (keysB (q.ks.map V.str) 8 && wordB q.u)) = true
  rw [ok.2.1, ok.1.keys (by decide), ok.2.2]; rfl
theorem rowU_t {q : Use} (ok : KsOk q.ks 8 ∧ wordB q.z = true ∧ wordB q.u = true) : rowT (rowU q) = tri q := by
  show (q.z, srtW q.ks, q.u) = _
  rw [ok.1.srt]; rfl
theorem row_use {K : PySem.W.Frag} {S : Addr → Prop} {H H' : Hp} {d : Addr} {q : Use} (h : UAt S H q) (ok : KsOk q.ks 8 ∧ wordB q.z = true ∧ wordB q.u = true) (s : Same H H') (nd : H d = none) : EntB K d H' (.inr q.z, .ref q.t) true := by
  have z := row_ent (h.row (K := K) ok s nd)
  rw [rowU_b ok] at z
  exact z
theorem kl_of_lst {K : PySem.W.Frag} {H : Hp} {l : Addr} {ks : List Str} {m : Nat} (e : H l = some (.lst (ks.map V.str))) (ok : KsOk ks m) (le : m ≤ 500) : KLOk K H ⟨l, true, ks⟩ := ⟨SqL.of e, fun H' s => .base (.lst (s _ _ e)), Nat.le_trans ok.le le, fun k hk => word_size (ok.w k hk)⟩
structure Chg (c : Ct) (z : Str) (ks : List Str) (u : Str) (c' : Ct) : Prop where
  us : c'.us.map tri = c.us.map fun q => if q.z = z then (z, srtW ks, u) else tri q
  vo : c'.vo = c.vo
  ne : c'.ne = c.ne
  si : c'.si = c.si
def AccOk (K : PySem.W.Frag) (H : Hp) (r : Use) (acc : V) (la : KL) : Prop := (acc = .non ∧ la = ⟨r.a, true, r.ks⟩) ∨ (acc = .ref la.a ∧ KLOk K H la ∧ keysB (la.ks.map V.str) 8 = true ∧ H la.a ≠ none)
def UseOk (r : Use) (use : V) (u : Str) : Prop := (use = .non ∧ u = r.u) ∨ (use = .str u ∧ wordB u = true)
def spChg (K : PySem.W.Frag) (C CI CU : Addr) : Sp := fun vs H Q E => ∃ x y acc use c S, vs = [.ref x, y, acc, use] ∧ CAt S C H x c ∧ CtOk c ∧
  ((NoRole K H c y ∧ ∀ d H', H d = none → Same H H' → H' d = some (.xd [(("name" : Str), y)]) → E (.ref CU) (some d) H') ∨
   (∃ r ∈ c.us, y = .str r.z ∧
     ((∃ la u, AccOk K H r acc la ∧ UseOk r use u ∧ ∀ z c' H', CAt (fun q => H q = none) C H' z c' → CtOk c' → Chg c r.z la.ks u c' → Same H H' → Q (.ref z) H') ∨
      (∃ fa fu, ((acc = .non ∧ fa = true) ∨ (acc ≠ .non ∧ KeysIs K H acc 8 fa)) ∧ ((use = .non ∧ fu = true) ∨ (use ≠ .non ∧ WordIs K H use fu)) ∧ (fa && fu) = false ∧
        ∀ d H', H d = none → Same H H' → H' d = some (.xd [(("part" : Str), .str "roles")]) → E (.ref CI) (some d) H'))))
theorem if_none {σ : L2.St} {i j : Nat} {a b : V} {H : Hp} {Q : VK} (hi : σ[i]? = some (some a)) (hj : σ[j]? = some (some b)) (q : Q (if b = .non then a else b) H) : if decide (b = V.non) = true then tVar i σ H Q else tVar j σ H Q := by
  by_cases c : b = .non
  · rw [if_pos c] at q
    exact iteTe (decide_eq_true c) ⟨_, hi, q⟩
  · rw [if_neg c] at q
    exact iteFe (decide_eq_false c) ⟨_, hj, q⟩
theorem all_false {us : List Use} {r : Use} {z : Str} (h : r ∈ us) (e : r.z = z) : (us.map fun q => if q.z = z then false else true).all id = false := by
  cases c : (us.map fun q => if q.z = z then false else true).all id with
  | false => rfl
  | true =>
    have x := List.all_eq_true.mp c _ (List.mem_map_of_mem (f := fun q : Use => if q.z = z then false else true) h)
    rw [if_pos e] at x
    cases x
theorem ents_set {K : PySem.W.Frag} {S : Addr → Prop} {H H' : Hp} {d t : Addr} {z : Str} {fl : Bool} (s : Same H H') (nd : H d = none) (he : EntB K d H' (.inr z, .ref t) fl) : ∀ {us : List Use}, (∀ q ∈ us, UAt S H q) → (∀ q ∈ us, KsOk q.ks 8 ∧ wordB q.z = true ∧ wordB q.u = true) →
    Paired (EntB K d H') (us.map fun q => ((Sum.inr q.z : Key), if q.z = z then V.ref t else V.ref q.t)) (us.map fun q => if q.z = z then fl else true)
  | [], _, _ => .nil
  | q :: us, ha, hk => by
    refine .cons ?_ (ents_set s nd he (fun p hp => ha p (List.mem_cons_of_mem _ hp)) (fun p hp => hk p (List.mem_cons_of_mem _ hp)))
    show EntB K d H' ((Sum.inr q.z : Key), if q.z = z then V.ref t else V.ref q.t) (if q.z = z then fl else true)
    by_cases c : q.z = z
    · rw [if_pos c, if_pos c, c]; exact he
    · rw [if_neg c, if_neg c]
      exact row_use (ha q List.mem_cons_self) (hk q List.mem_cons_self) s nd
section
variable {P : Program} {w : World} {K : PySem.W.Frag} {mg : Str → Option Value} {base : Heap} {C CI CU CK : Addr}
abbrev s_Contents_changed : Stmt := inClass (top 21) 12
theorem sc_Contents_changed : FnScope ["self", "role", "accepted", "used", "uses", "old_accepted", "old_used"] ["self", "role", "accepted", "used"] (defScope s_Contents_changed) := ⟨rfl, rfl, rfl, by decide +kernel, rfl, by decide +kernel, by decide +kernel⟩
theorem body_chg (T : Txt K mg) (J : CTx K mg C) (M_use : Met P w K mg base (L2.CX P w) 3 C "_use" (spRole K C CU outT)) (M_Contents : MakN P w K mg base (L2.CX P w) 7 "Contents" C 2 ["needed", "signers"] (fun vs zs => vs ++ zs) (spCInit P w K C CI))
    (f : Addr) : BodyX P w K mg base ["self", "role", "accepted", "used", "uses", "old_accepted", "old_used"] "Contents.changed" s_Contents_changed f 8 (spChg K C CI CU) := by
  intro cdv A outer s H vs Q E hr h
  obtain ⟨x, y, acc, use, c, S, rfl, ac, ok, h⟩ := h
  have hu1 : (A.deeper (envOfC "Contents.changed" (defScope s_Contents_changed) s.heap.objs.size f cdv)).units + 1 < cLine := Nat.lt_of_le_of_lt (Nat.add_le_add_left (by decide : 1 ≤ 64) _) hr.units
  refine ⟨_, (pss_cons (ps_asg (pe_mS M_use J.cl (takes_of rfl rfl rfl rfl) hr (by decide) (pv 0) (pa_cons (pv 1) pa_nil)) (pg_tup rfl (pgs_cons (pg_name (i := 5) sc_Contents_changed.nd rfl (Or.inl rfl)) (pgs_cons (pg_name (i := 6) sc_Contents_changed.nd rfl (Or.inl rfl)) pgs_nil))))
      (pss_cons (ps_set (i := 4) sc_Contents_changed.nd rfl (Or.inl rfl) (pe_callTy call_dictD (by rfl) T.b_dict (by decide +kernel) (pa_cons (pe_fld (pv 0) rfl) pa_nil)))
      (pss_cons (ps_dput hu1 (pv 4) (pv 1) (pe_tup (pa_cons (pe_ifExp (pt_cmpR op_isN (pv 2) pe_non (nomark _)) (pv 5) (pv 2)) (pa_cons (pe_ifExp (pt_cmpR op_isN (pv 3) pe_non (nomark _)) (pv 6) (pv 3)) pa_nil))) rfl)
      (pss_one (ps_ret (pe_mkNS M_Contents (takes_of rfl rfl rfl rfl) hr (by decide) rfl (pa_cons (pv 4) (pa_cons (pe_fld (pv 0) rfl) pa_nil)) (pk_cons (pe_fld (pv 0) rfl) (pk_cons (pe_fld (pv 0) rfl) pk_nil)))))))), ?_⟩
  obtain ⟨⟨dx, d, v, sg, e1, e2, e3, e4, _⟩, us⟩ := id ac
  have nof : (cflds d v c.ne sg).lookup ("_use" : Str) = none := get_no _ _ _ _ (by decide +kernel) (by decide +kernel) (by decide +kernel) (by decide +kernel)
  refine ⟨_, rfl, x, dx, _, rfl, e1, nof, _, rfl, x, y, c, S, rfl, ac, ok, ?_⟩
  rcases h with ⟨no, k⟩ | ⟨r, hr2, rfl, h⟩
  · exact .inr ⟨no, fun d H' nd ed s => k d H' nd s ed⟩
  · refine .inl ⟨r, hr2, rfl, ?_⟩
    have ur := us r hr2
    have okr := ok.us r hr2
    refine ⟨r.t, _, rfl, SqT.of ur.tp, rfl, _, _, rfl, _, _, rfl, rfl, ?_⟩
    refine ⟨_, rfl, x, C, dx, _, _, rfl, e1, J.cl, J.nu, get_u _ _ _ _, d, _, rfl, .inl e2, fun du ndu => ?_⟩
    have s1 := same_new (o := .dK (dictU c.us)) ndu
    have rz : r.z ∈ c.us.map (·.z) := List.mem_map_of_mem hr2
    have e1' := s1 _ _ e1
    refine ⟨_, rfl, rfl, _, rfl, if_none rfl rfl ?_⟩
    refine ⟨_, rfl, rfl, _, rfl, if_none rfl rfl ⟨by show 2 ≤ sizeLine; decide, fun tn ntn => ?_⟩⟩
    generalize eav : (if acc = V.non then V.ref r.a else acc) = accv
    generalize euv : (if use = V.non then V.str r.u else use) = usev
    have l3 : (dictU c.us).length < sizeLine := by
      unfold dictU
      have := ok.n3
      rw [List.length_map, sizeLine_eq]; omega
    refine ⟨_, rfl, _, rfl, du, _, rfl, DPut.k (k := Sum.inr r.z) (same_new ntn _ _ upd_same) l3, ?_⟩
    rw [put_map rz]
    have s3 : Same H (upd (upd (upd H du (.dK (dictU c.us))) tn (.tup [accv, usev])) du (.dK (c.us.map fun q => ((Sum.inr q.z : Key), if q.z = r.z then V.ref tn else V.ref q.t)))) := same_mut (same_new' s1 ntn) ndu
    have tnd : tn ≠ du := fun e => by rw [e, upd_same] at ntn; cases ntn
    have et : (upd (upd (upd H du (.dK (dictU c.us))) tn (.tup [accv, usev])) du (.dK (c.us.map fun q => ((Sum.inr q.z : Key), if q.z = r.z then V.ref tn else V.ref q.t)))) tn = some (.tup [accv, usev]) := by rw [upd_ne tnd, upd_same]
    have ed : (upd (upd (upd H du (.dK (dictU c.us))) tn (.tup [accv, usev])) du (.dK (c.us.map fun q => ((Sum.inr q.z : Key), if q.z = r.z then V.ref tn else V.ref q.t)))) du = some (.dK (c.us.map fun q => ((Sum.inr q.z : Key), if q.z = r.z then V.ref tn else V.ref q.t))) := upd_same
    generalize upd (upd (upd H du (.dK (dictU c.us))) tn (.tup [accv, usev])) du (.dK (c.us.map fun q => ((Sum.inr q.z : Key), if q.z = r.z then V.ref tn else V.ref q.t))) = H3 at *
    refine ⟨_, rfl, _, rfl, x, C, dx, _, _, rfl, s3 _ _ e1, J.cl, J.nv, get_v _ _ _ _, _, rfl, x, C, dx, _, _, rfl, s3 _ _ e1, J.cl, J.nn, get_n _ _ _ _, _, rfl, x, C, dx, _, _, rfl, s3 _ _ e1, J.cl, J.ns, get_s _ _ _ _, rfl, rfl, fun z dz nz ndz nez => ?_⟩
    refine ⟨z, dz, _, _, _, _, H3, rfl, upd_same, same_new' (same_new ndz) (by rw [upd_ne (Ne.symm nez)]; exact nz), nz, ?_⟩
    have kvo : KLOk K H3 ⟨v, true, c.vo⟩ := kl_of_lst (s3 _ _ e3) ok.vo (by decide)
    have ksi : KLOk K H3 ⟨sg, true, c.si⟩ := kl_of_lst (s3 _ _ e4) ok.si (by decide)
    have bvo : keysB (c.vo.map V.str) 4 = true := ok.vo.keys (by decide)
    have bsi : keysB (c.si.map V.str) 4 = true := ok.si.keys (by decide)
    rcases h with ⟨la, u, hacc, huse, k⟩ | ⟨fa, fu, hacc, huse, ff, k⟩
    · have kla : accv = .ref la.a ∧ KLOk K H la ∧ keysB (la.ks.map V.str) 8 = true ∧ H la.a ≠ none := by
        rcases hacc with ⟨rfl, rfl⟩ | ⟨rfl, a1, a2, a3⟩
        · rw [if_pos rfl] at eav
          exact ⟨eav.symm, kl_of_lst ur.ls okr.1 (by decide), okr.1.keys (by decide), by show H r.a ≠ none; rw [ur.ls]; exact fun z => nomatch z⟩
        · rw [if_neg (fun z => nomatch z)] at eav
          exact ⟨eav.symm, a1, a2, a3⟩
      have ku : usev = .str u ∧ wordB u = true := by
        rcases huse with ⟨rfl, rfl⟩ | ⟨rfl, a1⟩
        · rw [if_pos rfl] at euv
          exact ⟨euv.symm, okr.2.2⟩
        · rw [if_neg (fun z => nomatch z)] at euv
          exact ⟨euv.symm, a1⟩
      obtain ⟨rfl, kl1, kl2, kl3⟩ := kla
      obtain ⟨rfl, ku2⟩ := ku
      have lad : la.a ≠ du := fun e => kl3 (by rw [e]; exact ndu)
      have sbo : ∀ {H' : Hp}, SameB du H3 H' → Same H H' := fun sb q o e => sb _ _ (s3 _ _ e) (ne_of_none e ndu)
      have nb : rowB ⟨r.z, tn, la.a, la.b, la.ks, u⟩ = true := by
        show (wordB r.z && (keysB (la.ks.map V.str) 8 && wordB u)) = true
        rw [okr.2.1, kl2, ku2]; rfl
      have ez : (setR c.us ⟨r.z, tn, la.a, la.b, la.ks, u⟩).map (·.z) = c.us.map (·.z) := setR_zs
      have len : (setR c.us ⟨r.z, tn, la.a, la.b, la.ks, u⟩).length = c.us.length := List.length_map ..
      refine .inl ⟨setR c.us ⟨r.z, tn, la.a, la.b, la.ks, u⟩, ⟨v, true, c.vo⟩, c.ne, some ⟨sg, true, c.si⟩, ⟨⟨du, rfl, by rw [ed]; exact congrArg (fun z => some (HO.dK z)) (set_dict (n := ⟨r.z, tn, la.a, la.b, la.ks, u⟩)), fun q hq => ?_⟩, by rw [len]; exact ok.n1, by rw [len]; exact ok.n3, by rw [ez]; exact ok.nd, List.all_eq_true.mpr fun q hq => ?_, ⟨rfl, kvo, bvo⟩, ⟨rfl, ok.ne.1, ok.ne.2⟩, .inr ⟨_, rfl, rfl, ksi, bsi⟩⟩, fun H' c' ca m ok' s' => ⟨rfl, k z c' H' (ca.wider fun q hq => s3.free hq) ok' ⟨?_, m.vo.trans ok.vo.srt, m.ne, m.si.trans ok.si.srt⟩ (s3.trans s')⟩⟩
      · rcases setR_mem hq with rfl | ⟨q0, hq0, rfl⟩
        · exact ⟨et, tnd, lad, (kl1.keep s3).sq, fun H' sb => kl1.ty H' (sbo sb), kl1.few, kl1.sh, word_size okr.2.1, word_size ku2⟩
        · exact (us q0 hq0).row (ok.us q0 hq0) s3 ndu
      · rcases setR_mem hq with rfl | ⟨q0, hq0, rfl⟩
        · exact nb
        · exact rowU_b (ok.us q0 hq0)
      · rw [made_tri m (by rw [ez]; exact ok.so) (by rw [ez]; exact ok.nd)]
        unfold setR
        rw [List.map_map]
        refine List.map_congr_left fun q hq => ?_
        show rowT (if q.z = r.z then ⟨r.z, tn, la.a, la.b, la.ks, u⟩ else rowU q) = _
        by_cases c0 : q.z = r.z
        · rw [if_pos c0, if_pos c0]; rfl
        · rw [if_neg c0, if_neg c0]; exact rowU_t (ok.us q hq)
    · have ka : KeysIs K H accv 8 fa := by
        rcases hacc with ⟨rfl, rfl⟩ | ⟨n, ka⟩
        · rw [if_pos rfl] at eav
          subst eav
          have z1 := (kl_of_lst (K := K) ur.ls okr.1 (by decide)).is 8
          rw [okr.1.keys (by decide)] at z1
          exact z1
        · rw [if_neg n] at eav
          subst eav; exact ka
      have ku : WordIs K H usev fu := by
        rcases huse with ⟨rfl, rfl⟩ | ⟨n, ku⟩
        · rw [if_pos rfl] at euv
          subst euv
          exact .inl ⟨_, rfl, word_size okr.2.2, okr.2.2.symm⟩
        · rw [if_neg n] at euv
          subst euv; exact ku
      have sbo : ∀ {H' : Hp}, SameB du H3 H' → Same H H' := fun sb q o e => sb _ _ (s3 _ _ e) (ne_of_none e ndu)
      have he : EntB K du H3 (.inr r.z, .ref tn) false := .inl ⟨r.z, rfl, word_size okr.2.1, .inr ⟨okr.2.1, fun H' Q' sb q => by
        rw [← ff] at q
        exact ⟨_, rfl, .inr (.inr ⟨tn, accv, usev, fa, fu, rfl, sb _ _ et tnd, ka.keep (sbo sb), ku.keep (sbo sb), q⟩)⟩⟩⟩
      have ri : RolesIs P w K H3 (.ref du) false := by
        have z1 := roles_of (P := P) (w := w) ed (by rw [List.length_map]; exact ok.n1) (by rw [List.length_map]; exact ok.n3) (by
          rw [List.map_map]
          have e : (c.us.map ((fun p : Key × V => p.1) ∘ fun q : Use => ((Sum.inr q.z : Key), if q.z = r.z then V.ref tn else V.ref q.t))) = (c.us.map (·.z)).map Sum.inr := by rw [List.map_map]; rfl
          rw [e]
          exact List.pairwise_map.mpr (List.Pairwise.imp (fun h q => h (Sum.inr.inj q)) ok.nd)) (ents_set s3 ndu he us ok.us)
        rw [all_false hr2 rfl] at z1
        exact z1
      have iv := kvo.is 4
      rw [bvo] at iv
      have isg := ksi.is 4
      rw [bsi] at isg
      exact .inr ⟨.str "roles", ⟨false, true, true, true, ri, iv, needs_is ok.ne.1 ok.ne.2, .inr ⟨(fun z => nomatch z), isg⟩, rfl, (fun z => nomatch z)⟩, fun d' H' nd' s' ed' => k d' H' (s3.free nd') (s3.trans s') ed'⟩
end

end K08

namespace K08
open PySem PySem.Spec PyProof.Rows L2 Jg
local macro_rules | `(tactic| walk_at "rd1") => `(tactic| (first
  | refine ⟨_, rfl, ?_⟩
  | refine ⟨_, _, rfl, rfl, ?_⟩
  | refine ⟨_, _, rfl, ?_⟩
  | refine ⟨rfl, ?_⟩
  | (refine ⟨show (0 : Int) < _ by omega, ?_⟩)
  | (refine ⟨Or.inl ⟨by omega, by omega⟩, ?_⟩)
  | (refine ⟨Or.inr ⟨by omega, by omega⟩, ?_⟩)
  | (refine ⟨(⟨by decide, by decide, by decide⟩ : CPow _ _), ?_⟩)
  | refine Or.inl ⟨_, rfl, ?_⟩
  | refine Or.inr ⟨_, rfl, ?_⟩
  | fail "rd"))
local macro_rules | `(tactic| walk_at "rd") => `(tactic| repeat' walk_at "rd1")


/-! ### contents that are vouched anew -/
theorem if_noneF {σ : L2.St} {j : Nat} {te : TE} {a b : V} {H : Hp} {Q : VK} (hi : ∀ Q : VK, Q a H → te σ H Q) (hj : σ[j]? = some (some b)) (q : Q (if b = .non then a else b) H) : if decide (b = V.non) = true then te σ H Q else tVar j σ H Q := by
  by_cases c : b = .non
  · rw [if_pos c] at q
    exact iteTe (decide_eq_true c) (hi _ q)
  · rw [if_neg c] at q
    exact iteFe (decide_eq_false c) ⟨_, hj, q⟩
def LstOk (K : PySem.W.Frag) (H : Hp) (y : V) (old ks : List Str) : Prop := (y = .non ∧ ks = old) ∨ ∃ l : KL, y = .ref l.a ∧ l.ks = ks ∧ KLOk K H l ∧ keysB (l.ks.map V.str) 4 = true
def LstIs (K : PySem.W.Frag) (H : Hp) (y : V) (f : Bool) : Prop := (y = .non ∧ f = true) ∨ (y ≠ .non ∧ KeysIs K H y 4 f)
theorem LstOk.val {K : PySem.W.Frag} {H : Hp} {y : V} {a : Addr} {old ks : List Str} (h : LstOk K H y old ks) (e : H a = some (.lst (old.map V.str))) (ok : KsOk old 4) : ∃ l : KL, (if y = .non then V.ref a else y) = .ref l.a ∧ l.ks = ks ∧ KLOk K H l ∧ keysB (l.ks.map V.str) 4 = true := by
  rcases h with ⟨rfl, rfl⟩ | ⟨l, rfl, h⟩
  · exact ⟨⟨a, true, _⟩, if_pos rfl, rfl, kl_of_lst e ok (by decide), ok.keys (by decide)⟩
  · exact ⟨l, if_neg (fun z => nomatch z), h⟩
theorem LstIs.val {K : PySem.W.Frag} {H : Hp} {y : V} {a : Addr} {old : List Str} {f : Bool} (h : LstIs K H y f) (e : H a = some (.lst (old.map V.str))) (ok : KsOk old 4) : KeysIs K H (if y = .non then V.ref a else y) 4 f := by
  rcases h with ⟨rfl, rfl⟩ | ⟨n, h⟩
  · rw [if_pos rfl]
    have z := (kl_of_lst (K := K) e ok (by decide)).is 4
    rw [ok.keys (by decide)] at z
    exact z
  · rw [if_neg n]; exact h
structure Rvd (c : Ct) (vks : List Str) (ne : Int) (sks : List Str) (c' : Ct) : Prop where
  us : c'.us.map tri = c.us.map tri
  vo : c'.vo = srtW vks
  ne : c'.ne = ne
  si : c'.si = srtW sks
def spRvd (K : PySem.W.Frag) (C CI : Addr) : Sp := fun vs H Q E => ∃ x vv nn ss c S, vs = [.ref x, vv, nn, ss] ∧ CAt S C H x c ∧ CtOk c ∧
  ((∃ vks ne sks, LstOk K H vv c.vo vks ∧ ((nn = .non ∧ ne = c.ne) ∨ (nn = .int ne ∧ 0 ≤ ne ∧ ne ≤ 4)) ∧ LstOk K H ss c.si sks ∧
     ∀ z c' H', CAt (fun q => H q = none) C H' z c' → CtOk c' → Rvd c vks ne sks c' → Same H H' → Q (.ref z) H') ∨
   (∃ f2 f3 f4 y, LstIs K H vv f2 ∧ ((nn = .non ∧ f3 = true) ∨ (nn ≠ .non ∧ NeedIs K H nn f3)) ∧ LstIs K H ss f4 ∧ wrongV true f2 f3 f4 = y ∧ y ≠ .non ∧
     ∀ d H', H d = none → Same H H' → H' d = some (.xd [(("part" : Str), y)]) → E (.ref CI) (some d) H'))
theorem UAt.row' {K : PySem.W.Frag} {S : Addr → Prop} {H : Hp} {q : Use} {d : Addr} {kvs : List (Key × V)} (h : UAt S H q) (ok : KsOk q.ks 8 ∧ wordB q.z = true ∧ wordB q.u = true) (ed : H d = some (.dK kvs)) : RowOk K d H (rowU q) :=
  have n1 : q.t ≠ d := ne_of h.tp ed (fun z => nomatch z)
  have n2 : q.a ≠ d := ne_of h.ls ed (fun z => nomatch z)
  ⟨h.tp, n1, n2, SqL.of h.ls, fun H2 s2 => .base (.lst (s2 _ _ h.ls n2)), by have := ok.1.le; show q.ks.length ≤ 500; omega, fun k hk => word_size (ok.1.w k hk), word_size ok.2.1, word_size ok.2.2⟩
theorem rows_z (us : List Use) : (us.map rowU).map (·.z) = us.map (·.z) := by rw [List.map_map]; rfl
theorem rows_b {us : List Use} (ok : ∀ q ∈ us, KsOk q.ks 8 ∧ wordB q.z = true ∧ wordB q.u = true) : (us.map rowU).all rowB = true := List.all_eq_true.mpr fun r hr => by
  obtain ⟨q, hq, rfl⟩ := List.mem_map.mp hr
  exact rowU_b (ok q hq)
theorem rows_t {us : List Use} (ok : ∀ q ∈ us, KsOk q.ks 8 ∧ wordB q.z = true ∧ wordB q.u = true) : (us.map rowU).map rowT = us.map tri := by
  rw [List.map_map]
  exact List.map_congr_left fun q hq => rowU_t (ok q hq)
section
variable {P : Program} {w : World} {K : PySem.W.Frag} {mg : Str → Option Value} {base : Heap} {C CI CU CK : Addr}
abbrev s_Contents_revouched : Stmt := inClass (top 21) 13
theorem sc_Contents_revouched : FnScope ["self", "vouchers", "needed", "signers"] ["self", "vouchers", "needed", "signers"] (defScope s_Contents_revouched) := ⟨rfl, rfl, rfl, by decide +kernel, rfl, by decide +kernel, by decide +kernel⟩
theorem body_rvd (T : Txt K mg) (J : CTx K mg C) (M_Contents : MakN P w K mg base (L2.CX P w) 7 "Contents" C 2 ["needed", "signers"] (fun vs zs => vs ++ zs) (spCInit P w K C CI))
    (f : Addr) : BodyX P w K mg base ["self", "vouchers", "needed", "signers"] "Contents.revouched" s_Contents_revouched f 8 (spRvd K C CI) := by
  intro cdv A outer s H vs Q E hr h
  obtain ⟨x, vv, nn, ss, c, S, rfl, ac, ok, h⟩ := h
  refine ⟨_, (pss_one (ps_ret (pe_mkNS M_Contents (takes_of rfl rfl rfl rfl) hr (by decide) rfl (pa_cons (pe_fld (pv 0) rfl) (pa_cons (pe_ifExp (pt_cmpR op_isN (pv 1) pe_non (nomark _)) (pe_fld (pv 0) rfl) (pv 1)) pa_nil)) (pk_cons (pe_ifExp (pt_cmpR op_isN (pv 2) pe_non (nomark _)) (pe_fld (pv 0) rfl) (pv 2)) (pk_cons (pe_ifExp (pt_cmpR op_isN (pv 3) pe_non (nomark _)) (pe_fld (pv 0) rfl) (pv 3)) pk_nil))))), ?_⟩
  obtain ⟨⟨dx, d, v, sg, e1, e2, e3, e4, _⟩, us⟩ := id ac
  have rd : ∀ {m : Str} {u : V}, NoAttr K C m → (cflds d v c.ne sg).lookup m = some u → ∀ {σ : L2.St}, σ[0]? = some (some (.ref x)) → ∀ Q : VK, Q u H → tFld K (tVar 0) m σ H Q := by
    intro m u na gl σ h0 Q q
    exact ⟨_, h0, x, C, dx, _, _, rfl, e1, J.cl, na, gl, q⟩
  refine ⟨_, rfl, x, C, dx, _, _, rfl, e1, J.cl, J.nu, get_u _ _ _ _, ?_⟩
  refine ⟨_, rfl, rfl, _, rfl, if_noneF (rd J.nv (get_v _ _ _ _) rfl) rfl ?_⟩
  refine ⟨_, rfl, rfl, _, rfl, if_noneF (rd J.nn (get_n _ _ _ _) rfl) rfl ?_⟩
  refine ⟨_, rfl, rfl, _, rfl, if_noneF (rd J.ns (get_s _ _ _ _) rfl) rfl ?_⟩
  refine ⟨rfl, rfl, fun z dz nz ndz nez => ?_⟩
  refine ⟨z, dz, _, _, _, _, H, rfl, upd_same, same_new' (same_new ndz) (by rw [upd_ne (Ne.symm nez)]; exact nz), nz, ?_⟩
  have rws : ∀ q ∈ c.us.map rowU, RowOk K d H q := fun q hq => by
    obtain ⟨q0, h0, rfl⟩ := List.mem_map.mp hq
    exact (us q0 h0).row' (ok.us q0 h0) e2
  have e2' : H d = some (.dK (dictOf (c.us.map rowU))) := by rw [← dictU_rows]; exact e2
  have l1 : 1 ≤ (c.us.map rowU).length := by rw [List.length_map]; exact ok.n1
  have l3 : (c.us.map rowU).length ≤ 3 := by rw [List.length_map]; exact ok.n3
  have nd : ((c.us.map rowU).map (·.z)).Nodup := by rw [rows_z]; exact ok.nd
  rcases h with ⟨vks, ne, sks, hv, hn, hs, k⟩ | ⟨f2, f3, f4, y, hv, hn, hs, ey, ny, k⟩
  · obtain ⟨lv, ev, elv, klv, bv⟩ := hv.val e3 ok.vo
    obtain ⟨ls, es, els, kls, bs⟩ := hs.val e4 ok.si
    have en : (if nn = V.non then V.int c.ne else nn) = .int ne ∧ 0 ≤ ne ∧ ne ≤ 4 := by
      rcases hn with ⟨rfl, rfl⟩ | ⟨rfl, h0, h4⟩
      · exact ⟨if_pos rfl, ok.ne.1, ok.ne.2⟩
      · exact ⟨if_neg (fun z => nomatch z), h0, h4⟩
    rw [ev, es, en.1]
    subst elv els
    refine .inl ⟨c.us.map rowU, lv, ne, some ls, ⟨⟨d, rfl, e2', rws⟩, l1, l3, nd, rows_b ok.us, ⟨rfl, klv, bv⟩, ⟨rfl, en.2⟩, .inr ⟨ls, rfl, rfl, kls, bs⟩⟩, fun H' c' ca m ok' s' => ⟨rfl, k z c' H' ca ok' ⟨?_, m.vo, m.ne, m.si⟩ s'⟩⟩
    rw [made_tri m (by rw [rows_z]; exact ok.so) nd, rows_t ok.us]
  · have ri : RolesIs P w K H (.ref d) true := by
      rw [← rows_b ok.us]
      exact roles_is e2' l1 l3 nd rws
    have sgn : ∃ f, f = f4 ∧ ((if ss = V.non then V.ref sg else ss) ≠ .non ∧ KeysIs K H (if ss = V.non then V.ref sg else ss) 4 f) := ⟨f4, rfl, by
      by_cases c0 : ss = .non
      · rw [if_pos c0]; exact fun z => nomatch z
      · rw [if_neg c0]; exact c0, hs.val e4 ok.si⟩
    obtain ⟨_, rfl, sgn⟩ := sgn
    have hn' : NeedIs K H (if nn = V.non then V.int c.ne else nn) f3 := by
      rcases hn with ⟨rfl, rfl⟩ | ⟨n, h⟩
      · rw [if_pos rfl]; exact needs_is ok.ne.1 ok.ne.2
      · rw [if_neg n]; exact h
    exact .inr ⟨y, ⟨true, f2, f3, _, ri, hv.val e3 ok.vo, hn', .inr sgn, ey, ny⟩, fun d' H' nd' s' ed' => k d' H' nd' s' ed'⟩
end

end K08

namespace K08
open PySem PySem.Spec PyProof.Rows L2 Jg
local macro_rules | `(tactic| walk_at "rd1") => `(tactic| (first
  | refine ⟨_, rfl, ?_⟩
  | refine ⟨_, _, rfl, rfl, ?_⟩
  | refine ⟨_, _, rfl, ?_⟩
  | refine ⟨rfl, ?_⟩
  | (refine ⟨show (0 : Int) < _ by omega, ?_⟩)
  | (refine ⟨Or.inl ⟨by omega, by omega⟩, ?_⟩)
  | (refine ⟨Or.inr ⟨by omega, by omega⟩, ?_⟩)
  | (refine ⟨(⟨by decide, by decide, by decide⟩ : CPow _ _), ?_⟩)
  | refine Or.inl ⟨_, rfl, ?_⟩
  | refine Or.inr ⟨_, rfl, ?_⟩
  | fail "rd"))
local macro_rules | `(tactic| walk_at "rd") => `(tactic| repeat' walk_at "rd1")


/-! ### contents without lost keys -/
def lessK (ls ks : List Str) : List Str := ks.filter fun k => !decide (k ∈ ls)
theorem KsOk.less {ks : List Str} {m : Nat} (h : KsOk ks m) (ls : List Str) : KsOk (lessK ls ks) m :=
  ⟨h.nd.sublist List.filter_sublist, pw_sorted ((sorted_pw h.so).sublist List.filter_sublist), Nat.le_trans (List.length_filter_le _ _) h.le, fun k hk => h.w k (List.mem_filter.mp hk).1⟩
structure Wod (c : Ct) (ls : List Str) (c' : Ct) : Prop where
  us : c'.us.map tri = c.us.map fun q => (q.z, lessK ls q.ks, q.u)
  vo : c'.vo = lessK ls c.vo
  ne : c'.ne = c.ne
  si : c'.si = lessK ls c.si
/-- no list of keys -/
def NoKl (K : PySem.W.Frag) (H : Hp) (y : V) : Prop := (∃ a xs, y = .ref a ∧ H a = some (.lst xs) ∧ xs.length ≤ 500 ∧ (∀ x ∈ xs, ItOk K H x) ∧ xs.all flagV = false) ∨ (∃ t, (∀ H', Same H H' → TyX K H' y t) ∧ kit K t "list" false)
def spWo (K : PySem.W.Frag) (C CK : Addr) : Sp := fun vs H Q E => ∃ x y c S, vs = [.ref x, y] ∧ CAt S C H x c ∧ CtOk c ∧
  ((NoKl K H y ∧ ∀ d H', H d = none → Same H H' → H' d = some (.xd [(("value" : Str), y)]) → E (.ref CK) (some d) H') ∨
   (∃ l ls, y = .ref l ∧ H l = some (.lst (ls.map V.str)) ∧ ls.length ≤ 500 ∧ (∀ z ∈ ls, wordB z = true) ∧ ∀ z c' H', CAt (fun q => H q = none) C H' z c' → CtOk c' → Wod c ls c' → Same H H' → Q (.ref z) H'))
theorem triL {us : List Use} {ls : List Str} (ok : ∀ q ∈ us, KsOk q.ks 8) : (us.map fun q => (q.z, lessK ls q.ks, q.u)).map (·.1) = us.map (·.z) := by rw [List.map_map]; rfl
section
variable {P : Program} {w : World} {K : PySem.W.Frag} {mg : Str → Option Value} {base : Heap} {C CI CU CK : Addr}
abbrev s_Contents_without : Stmt := inClass (top 21) 14
theorem sc_Contents_without : FnScope ["self", "lost", "uses", "role", "accepted", "used"] ["self", "lost"] (defScope s_Contents_without) := ⟨rfl, rfl, rfl, by decide +kernel, rfl, by decide +kernel, by decide +kernel⟩
theorem body_wo (T : Txt K mg) (J : CTx K mg C) (M_Contents : MakN P w K mg base (L2.CX P w) 7 "Contents" C 2 ["needed", "signers"] (fun vs zs => vs ++ zs) (spCInit P w K C CI)) (G_InvalidKeys : ExnB P w K mg base 1 "InvalidKeys" CK (spX CK "value")) (G_is_key_list : Cal P w K mg base CX0 2 "is_key_list" (spKList K)) (G_remaining : Cal P w K mg base CX0 1 "_remaining" (spRem K))
    (f : Addr) : BodyX P w K mg base ["self", "lost", "uses", "role", "accepted", "used"] "Contents.without" s_Contents_without f 8 (spWo K C CK) := by
  intro cdv A outer s H vs Q E hr h
  obtain ⟨x, y, c, S, rfl, ac, ok, h⟩ := h
  have hu1 : (A.deeper (envOfC "Contents.without" (defScope s_Contents_without) s.heap.objs.size f cdv)).units + 1 < cLine := Nat.lt_of_le_of_lt (Nat.add_le_add_left (by decide : 1 ≤ 64) _) hr.units
  refine ⟨_, (pss_cons (ps_if (pt_not (pt_val (pe_c G_is_key_list hr (by decide) rfl (pa_cons (pv 1) pa_nil)))) (pss_one (ps_raise rfl (takes_of rfl rfl rfl rfl) (pmk_b G_InvalidKeys hr (by decide) rfl (pa_cons (pv 1) pa_nil)))) pss_nil)
      (pss_cons (ps_set (i := 2) sc_Contents_without.nd rfl (Or.inl rfl) pe_dnewK)
      (pss_cons (ps_lock (ps_for (passes_of rfl) rfl (pi_items (pe_fld (pv 0) rfl)) (pg_tup rfl (pgs_cons (pg_name (i := 3) sc_Contents_without.nd rfl (Or.inl rfl)) (pgs_cons (pg_tup rfl (pgs_cons (pg_name (i := 4) sc_Contents_without.nd rfl (Or.inl rfl)) (pgs_cons (pg_name (i := 5) sc_Contents_without.nd rfl (Or.inl rfl)) pgs_nil))) pgs_nil))) (pss_one (ps_dput hu1 (pv 2) (pv 3) (pe_tup (pa_cons (pe_c G_remaining hr (by decide) rfl (pa_cons (pv 4) (pa_cons (pv 1) pa_nil))) (pa_cons (pv 5) pa_nil))) rfl))))
      (pss_one (ps_ret (pe_mkNS M_Contents (takes_of rfl rfl rfl rfl) hr (by decide) rfl (pa_cons (pv 2) (pa_cons (pe_c G_remaining hr (by decide) rfl (pa_cons (pe_fld (pv 0) rfl) (pa_cons (pv 1) pa_nil))) pa_nil)) (pk_cons (pe_fld (pv 0) rfl) (pk_cons (pe_c G_remaining hr (by decide) rfl (pa_cons (pe_fld (pv 0) rfl) (pa_cons (pv 1) pa_nil))) pk_nil)))))))), ?_⟩
  obtain ⟨⟨dx, d, v, sg, e1, e2, e3, e4, _⟩, us⟩ := id ac
  rcases h with ⟨no, k⟩ | ⟨l, ls, rfl, el, fl, wl, k⟩
  · refine ⟨_, rfl, y, rfl, ?_⟩
    rcases no with ⟨a, xs, rfl, ea, few, its, ff⟩ | ⟨t, ty, kt⟩
    · refine .inl ⟨a, xs, rfl, ea, few, its, fun H1 s1 => ?_⟩
      rw [ff]
      exact ⟨_, rfl, iteT ⟨_, rfl, x_read fun d nd => k d _ (s1.free nd) (same_new' s1 nd) upd_same⟩⟩
    · exact .inr ⟨t, ty _ (.refl _), kt, _, rfl, iteT ⟨_, rfl, x_read fun d nd => k d _ nd (same_new nd) upd_same⟩⟩
  · refine ⟨_, rfl, .ref l, rfl, .inl ⟨l, _, rfl, el, by rw [List.length_map]; exact fl, fun x hx => ?_, fun H1 s1 => ?_⟩⟩
    · obtain ⟨z, hz, rfl⟩ := List.mem_map.mp hx
      exact .inl ⟨z, rfl, word_size (wl z hz)⟩
    have af : (ls.map V.str).all flagV = true := List.all_eq_true.mpr fun x hx => by
      obtain ⟨z, hz, rfl⟩ := List.mem_map.mp hx
      exact wl z hz
    rw [af]
    refine ⟨_, rfl, iteF fun du ndu => ?_⟩
    have nduH : H du = none := s1.free ndu
    have s2 := same_new' (o := .dK []) s1 ndu
    have edu : upd H1 du (.dK []) du = some (.dK []) := upd_same
    have ddu : d ≠ du := ne_of_none e2 nduH
    generalize upd H1 du (.dK []) = H2 at *
    have e22 := s2 _ _ e2
    refine ⟨d, _, e22, trivial, fun od => ?_⟩
    have eL : upd H2 d (.frz od (.dK (dictU c.us))) d = some (.frz od (.dK (dictU c.us))) := upd_same
    have sL : ∀ q o, H q = some o → q ≠ d → upd H2 d (.frz od (.dK (dictU c.us))) q = some o := fun q o e n => by rw [upd_ne n]; exact s2 _ _ e
    have eduL : upd H2 d (.frz od (.dK (dictU c.us))) du = some (.dK []) := by rw [upd_ne ddu.symm]; exact edu
    have frL : ∀ q, upd H2 d (.frz od (.dK (dictU c.us))) q = none → H q = none := fun q n => by
      by_cases c0 : q = d
      · rw [c0, upd_same] at n; cases n
      · rw [upd_ne c0] at n; exact s2.free n
    generalize upd H2 d (.frz od (.dK (dictU c.us))) = HL at *
    have xL := sL _ _ e1 (ne_of e1 e2 (fun z => nomatch z))
    have lL := sL _ _ el (ne_of el e2 (fun z => nomatch z))
    refine ⟨_, rfl, x, C, dx, _, _, rfl, xL, J.cl, J.nu, get_u _ _ _ _, d, od, _, rfl, eL, for_it walk_items (fun i sg' H' => ∃ (v3 v4 v5 : Option V) (nw : List Use), sg' = [some (.ref x), some (.ref l), some (.ref du), v3, v4, v5] ∧ SameB du HL H' ∧ H' du = some (.dK (dictU nw)) ∧ nw.map tri = (c.us.take i).map (fun q => (q.z, lessK ls q.ks, q.u)) ∧ ∀ r ∈ nw, UAt (fun q => H q = none) H' r)
      ⟨_, _, _, [], rfl, (fun _ _ e _ => e), eduL, rfl, (fun _ h => nomatch h)⟩ (fun i sg' H' _ ⟨_, _, _, _, _, w, _⟩ => w _ _ eL ddu) ?_ ?_⟩
    · rintro i y sg' H' H3 lt ⟨v3, v4, v5, nw, rfl, sI, edI, en, un⟩ ⟨tp, kk, vv, rfl, ntp, rfl, ek, ev⟩
      have gt : (dictU c.us)[i]? = (c.us[i]?).map fun r : Use => ((Sum.inr r.z : Key), V.ref r.t) := by unfold dictU; rw [List.getElem?_map]
      obtain ⟨r, er, rfl, rfl⟩ : ∃ r, c.us[i]? = some r ∧ kk = .str r.z ∧ vv = .ref r.t := by
        have ek' : ((dictU c.us)[i]?).map (fun kv => kV kv.1) = some kk := ek
        have ev' : ((dictU c.us)[i]?).map Prod.snd = some vv := ev
        rw [gt] at ek' ev'
        cases e0 : c.us[i]? with
        | none => rw [e0] at ek'; cases ek'
        | some r => rw [e0] at ek' ev'; exact ⟨r, rfl, (Option.some.inj ek').symm, (Option.some.inj ev').symm⟩
      have hr2 := List.mem_of_getElem? er
      have ur := us r hr2
      have okr := ok.us r hr2
      have tk : c.us.take (i + 1) = c.us.take i ++ [r] := by rw [List.take_succ, er]; rfl
      have keep : ∀ {q : Addr} {o : HO}, H q = some o → q ≠ d → H' q = some o := fun {q o} e n => sI _ _ (sL _ _ e n) (ne_of_none e nduH)
      have f1 := keep ur.tp (ne_of ur.tp e2 (fun z => nomatch z))
      have f2 := keep ur.ls (ne_of ur.ls e2 (fun z => nomatch z))
      have f3 := keep el (ne_of el e2 (fun z => nomatch z))
      have q1 := same_new (o := .tup [.str r.z, .ref r.t]) ntp
      refine ⟨tp, _, rfl, SqT.of upd_same, rfl, _, _, rfl, _, _, rfl, r.t, _, rfl, SqT.of (q1 _ _ f1), rfl, _, _, rfl, _, _, rfl, rfl, rfl, ?_⟩
      refine ⟨_, rfl, _, rfl, r.a, l, r.ks, ls, rfl, SqL.of (q1 _ _ f2), SqL.of (q1 _ _ f3), by have := okr.1.le; omega, fun p1 np1 => ⟨_, rfl, by show 2 ≤ sizeLine; decide, fun tn ntn => ?_⟩⟩
      have q2 := same_new' (o := .lst ((lessK ls r.ks).map V.str)) q1 np1
      have q3 := same_new' (o := .tup [.ref p1, .str r.u]) q2 ntn
      have zs : nw.map (·.z) = (c.us.take i).map (·.z) := by
        have z1 := congrArg (List.map (·.1)) en
        rw [List.map_map, List.map_map] at z1
        exact z1
      have ln : nw.length ≤ 3 := by
        have z1 := congrArg List.length zs
        rw [List.length_map, List.length_map, List.length_take] at z1
        have := ok.n3
        omega
      have zn : r.z ∉ nw.map (·.z) := by
        rw [zs]
        intro hm
        have nd2 : ((c.us.take (i + 1)).map (·.z)).Nodup := ok.nd.sublist ((List.take_sublist _ _).map _)
        rw [tk, List.map_append, List.nodup_append] at nd2
        exact nd2.2.2 _ hm _ (List.mem_singleton.mpr rfl) rfl
      refine ⟨_, rfl, _, rfl, du, _, rfl, DPut.k (k := Sum.inr r.z) (q3 _ _ edI) (by unfold dictU; rw [List.length_map, sizeLine_eq]; omega), ?_⟩
      have eq : putK (dictU nw) (Sum.inr r.z) (V.ref tn) = dictU (nw ++ [⟨r.z, tn, p1, lessK ls r.ks, r.u⟩]) := put_use (r := ⟨r.z, tn, p1, lessK ls r.ks, r.u⟩) zn
      rw [eq]
      have et : upd (upd (upd H' tp (.tup [.str r.z, .ref r.t])) p1 (.lst ((lessK ls r.ks).map V.str))) tn (.tup [.ref p1, .str r.u]) tn = some (.tup [.ref p1, .str r.u]) := upd_same
      have ep : upd (upd (upd H' tp (.tup [.str r.z, .ref r.t])) p1 (.lst ((lessK ls r.ks).map V.str))) tn (.tup [.ref p1, .str r.u]) p1 = some (.lst ((lessK ls r.ks).map V.str)) := by rw [upd_ne (ne_of_none upd_same ntn)]; exact upd_same
      have fr : ∀ q, H' q = none → H q = none := fun q n => by
        by_cases c0 : q = du
        · rw [c0]; exact nduH
        · exact frL q (sI.free n c0)
      have n1 : H tn = none := fr _ (q2.free ntn)
      have n2 : H p1 = none := fr _ (q1.free np1)
      have edq := q3 _ _ edI
      show ∃ v3 v4 v5 nw2, _
      refine ⟨_, _, _, nw ++ [⟨r.z, tn, p1, lessK ls r.ks, r.u⟩], rfl, fun q o e n => by rw [upd_ne n]; exact q3 _ _ (sI _ _ e n), upd_same, by rw [List.map_append, en, tk, List.map_append]; rfl, fun r2 h2 => ?_⟩
      have up : ∀ r3, UAt (fun q => H q = none) (upd (upd (upd H' tp (.tup [.str r.z, .ref r.t])) p1 (.lst ((lessK ls r.ks).map V.str))) tn (.tup [.ref p1, .str r.u])) r3 → UAt (fun q => H q = none) (upd (upd (upd (upd H' tp (.tup [.str r.z, .ref r.t])) p1 (.lst ((lessK ls r.ks).map V.str))) tn (.tup [.ref p1, .str r.u])) du (.dK (dictU (nw ++ [⟨r.z, tn, p1, lessK ls r.ks, r.u⟩])))) r3 := fun r3 h3 => h3.put fun q o e k3 => by
        rw [upd_ne (ne_of e edq (by rcases k3 with ⟨_, rfl⟩ | ⟨_, rfl⟩ <;> (intro z; cases z)))]; exact e
      rcases List.mem_append.mp h2 with h2 | h2
      · exact up _ ((un r2 h2).put fun q o e _ => q3 _ _ e)
      · obtain rfl := List.mem_singleton.mp h2
        exact up _ ⟨et, ep, n1, n2⟩
    · rintro sg' H' ⟨v3, v4, v5, nw, rfl, sI, edI, en, un⟩
      have dl : (dictU c.us).length = c.us.length := List.length_map ..
      rw [dl, List.take_length] at en
      have edL := sI _ _ eL ddu
      refine ⟨edL, ?_⟩
      have sF : Same H (upd H' d (.dK (dictU c.us))) := fun q o e => by
        by_cases c0 : q = d
        · rw [c0] at e ⊢; rw [upd_same, ← e2]; exact e
        · rw [upd_ne c0]; exact sI _ _ (sL _ _ e c0) (ne_of_none e nduH)
      have edF : upd H' d (.dK (dictU c.us)) du = some (.dK (dictU nw)) := by rw [upd_ne ddu.symm]; exact edI
      have unF : ∀ r ∈ nw, UAt (fun q => H q = none) (upd H' d (.dK (dictU c.us))) r := fun r hr => (un r hr).put fun q o e k3 => by
        rw [upd_ne (ne_of e edL (by rcases k3 with ⟨_, rfl⟩ | ⟨_, rfl⟩ <;> (intro z; cases z)))]; exact e
      clear eL sL eduL frL xL lL sI edI un edL
      generalize upd H' d (.dK (dictU c.us)) = HF at *
      have lvo := ok.vo.le
      have lsi := ok.si.le
      refine ⟨_, rfl, _, rfl, x, C, dx, _, _, rfl, sF _ _ e1, J.cl, J.nv, get_v _ _ _ _, _, rfl, v, l, c.vo, ls, rfl, SqL.of (sF _ _ e3), SqL.of (sF _ _ el), by omega, fun p1 np1 => ?_⟩
      have g1 := same_new (o := .lst ((lessK ls c.vo).map V.str)) np1
      have s1' := sF.trans g1
      refine ⟨_, rfl, x, C, dx, _, _, rfl, s1' _ _ e1, J.cl, J.nn, get_n _ _ _ _, _, rfl, x, C, dx, _, _, rfl, s1' _ _ e1, J.cl, J.ns, get_s _ _ _ _, _, rfl, sg, l, c.si, ls, rfl, SqL.of (s1' _ _ e4), SqL.of (s1' _ _ el), by omega, fun p2 np2 => ?_⟩
      have g2 := same_new' (o := .lst ((lessK ls c.si).map V.str)) g1 np2
      have ep1 : upd (upd HF p1 (.lst ((lessK ls c.vo).map V.str))) p2 (.lst ((lessK ls c.si).map V.str)) p1 = some (.lst ((lessK ls c.vo).map V.str)) := same_new np2 _ _ upd_same
      have ep2 : upd (upd HF p1 (.lst ((lessK ls c.vo).map V.str))) p2 (.lst ((lessK ls c.si).map V.str)) p2 = some (.lst ((lessK ls c.si).map V.str)) := upd_same
      have sE := sF.trans g2
      have edE := g2 _ _ edF
      have kn : ∀ r ∈ nw, KsOk r.ks 8 ∧ wordB r.z = true ∧ wordB r.u = true := fun r hr => by
        have z1 : tri r ∈ c.us.map (fun q => (q.z, lessK ls q.ks, q.u)) := en ▸ List.mem_map_of_mem hr
        obtain ⟨q, hq, eq⟩ := List.mem_map.mp z1
        have e1 : q.z = r.z := congrArg (·.1) eq
        have e2 : lessK ls q.ks = r.ks := congrArg (·.2.1) eq
        have e3 : q.u = r.u := congrArg (·.2.2) eq
        obtain ⟨k1, k2, k3⟩ := ok.us q hq
        exact ⟨e2 ▸ k1.less ls, e1 ▸ k2, e3 ▸ k3⟩
      have zs : nw.map (·.z) = c.us.map (·.z) := by
        have z1 := congrArg (List.map (·.1)) en
        rw [List.map_map, List.map_map] at z1
        exact z1
      have ln : nw.length = c.us.length := by
        have z1 := congrArg List.length zs
        rw [List.length_map, List.length_map] at z1
        exact z1
      have unE : ∀ r ∈ nw, UAt (fun q => H q = none) (upd (upd HF p1 (.lst ((lessK ls c.vo).map V.str))) p2 (.lst ((lessK ls c.si).map V.str))) r := fun r hr => (unF r hr).put fun q o e _ => g2 _ _ e
      have edE' : upd (upd HF p1 (.lst ((lessK ls c.vo).map V.str))) p2 (.lst ((lessK ls c.si).map V.str)) du = some (.dK (dictOf (nw.map rowU))) := by rw [← dictU_rows]; exact edE
      have rws : ∀ q ∈ nw.map rowU, RowOk K du (upd (upd HF p1 (.lst ((lessK ls c.vo).map V.str))) p2 (.lst ((lessK ls c.si).map V.str))) q := fun q hq => by
        obtain ⟨q0, h0, rfl⟩ := List.mem_map.mp hq
        exact (unE q0 h0).row' (kn q0 h0) edE
      have nd : ((nw.map rowU).map (·.z)).Nodup := by rw [rows_z, zs]; exact ok.nd
      have k1 : KLOk K (upd (upd HF p1 (.lst ((lessK ls c.vo).map V.str))) p2 (.lst ((lessK ls c.si).map V.str))) ⟨p1, true, lessK ls c.vo⟩ := kl_of_lst ep1 (ok.vo.less ls) (by decide)
      have k2 : KLOk K (upd (upd HF p1 (.lst ((lessK ls c.vo).map V.str))) p2 (.lst ((lessK ls c.si).map V.str))) ⟨p2, true, lessK ls c.si⟩ := kl_of_lst ep2 (ok.si.less ls) (by decide)
      refine ⟨rfl, rfl, fun z dz nz ndz nez => ?_⟩
      refine ⟨z, dz, _, _, _, _, upd (upd HF p1 (.lst ((lessK ls c.vo).map V.str))) p2 (.lst ((lessK ls c.si).map V.str)), rfl, upd_same, same_new' (same_new ndz) (by rw [upd_ne (Ne.symm nez)]; exact nz), nz, .inl ⟨nw.map rowU, ⟨p1, true, lessK ls c.vo⟩, c.ne, some ⟨p2, true, lessK ls c.si⟩, ⟨⟨du, rfl, edE', rws⟩, by rw [List.length_map, ln]; exact ok.n1, by rw [List.length_map, ln]; exact ok.n3, nd, rows_b kn, ⟨rfl, k1, (ok.vo.less ls).keys (by decide)⟩, ⟨rfl, ok.ne⟩, .inr ⟨_, rfl, rfl, k2, (ok.si.less ls).keys (by decide)⟩⟩, fun H' c' ca m ok' s' => ⟨rfl, k z c' H' (ca.wider fun q hq => sE.free hq) ok' ⟨?_, m.vo.trans (ok.vo.less ls).srt, m.ne, m.si.trans (ok.si.less ls).srt⟩ (sE.trans s')⟩⟩⟩
      rw [made_tri m (by rw [rows_z, zs]; exact ok.so) nd, rows_t kn, en]
end

end K08

namespace K08
open PySem PySem.Spec PyProof.Rows L2 Jg
local macro_rules | `(tactic| walk_at "rd1") => `(tactic| (first
  | refine ⟨_, rfl, ?_⟩
  | refine ⟨_, _, rfl, rfl, ?_⟩
  | refine ⟨_, _, rfl, ?_⟩
  | refine ⟨rfl, ?_⟩
  | (refine ⟨show (0 : Int) < _ by omega, ?_⟩)
  | (refine ⟨Or.inl ⟨by omega, by omega⟩, ?_⟩)
  | (refine ⟨Or.inr ⟨by omega, by omega⟩, ?_⟩)
  | (refine ⟨(⟨by decide, by decide, by decide⟩ : CPow _ _), ?_⟩)
  | refine Or.inl ⟨_, rfl, ?_⟩
  | refine Or.inr ⟨_, rfl, ?_⟩
  | fail "rd"))
local macro_rules | `(tactic| walk_at "rd") => `(tactic| repeat' walk_at "rd1")


/-! ### what is told, and told on -/
def turnL (ks : List Str) (z : Str) : List Str := if z ∈ ks then ks.filter (fun k => !decide (k = z)) else ks ++ [z]
structure Sb (hs ks : List Str) : Prop where
  nd : ks.Nodup
  sub : ∀ k ∈ ks, k ∈ hs
theorem nd_len : ∀ {ks hs : List Str}, ks.Nodup → (∀ k ∈ ks, k ∈ hs) → ks.length ≤ hs.length
  | [], _, _, _ => Nat.zero_le _
  | k :: r, hs, nd, sub => by
    rw [List.nodup_cons] at nd
    have h1 := sub k List.mem_cons_self
    have h2 : ∀ x ∈ r, x ∈ hs.erase k := fun x hx => (List.mem_erase_of_ne (fun e => nd.1 (by rw [← e]; exact hx))).mpr (sub x (List.mem_cons_of_mem _ hx))
    have h3 := nd_len nd.2 h2
    rw [List.length_erase_of_mem h1] at h3
    have h4 := List.length_pos_of_mem h1
    rw [List.length_cons]; omega
theorem Sb.len {hs ks : List Str} (h : Sb hs ks) : ks.length ≤ hs.length := nd_len h.nd h.sub
theorem Sb.turn {hs ks : List Str} {z : Str} (h : Sb hs ks) (hz : z ∈ hs) : Sb hs (turnL ks z) := by
  unfold turnL
  by_cases c : z ∈ ks
  · rw [if_pos c]
    exact ⟨h.nd.sublist List.filter_sublist, fun k hk => h.sub k (List.mem_filter.mp hk).1⟩
  · rw [if_neg c]
    refine ⟨List.nodup_append.mpr ⟨h.nd, by simp, fun a ha b hb e => c (by rw [← List.mem_singleton.mp hb, ← e]; exact ha)⟩, fun k hk => ?_⟩
    rcases List.mem_append.mp hk with hk | hk
    · exact h.sub k hk
    · rw [List.mem_singleton.mp hk]; exact hz
structure TdG (parts keys hands : List Str) (d : Td) : Prop where
  zs : d.rows.map (·.z) = parts
  rows : ∀ r ∈ d.rows, r.u ∈ keys ∧ Sb keys r.ks
  vo : Sb hands d.vo
  le : 0 ≤ d.le ∧ d.le ≤ 4
  sg : ∀ ks, d.sg = some ks → Sb hands ks
theorem TdOk.g {parts keys hands : List Str} {d : Td} (h : TdOk parts keys hands d) (hn : hands.Nodup) : TdG parts keys hands d :=
  ⟨h.zs, fun r hr => ⟨(h.rows r hr).1, (h.rows r hr).2.1, (h.rows r hr).2.2⟩, ⟨hn.sublist h.vo, fun k hk => h.vo.subset hk⟩, ⟨h.le.1, by have := h.le.2; omega⟩, fun ks e => ⟨hn.sublist (h.sg ks e), fun k hk => (h.sg ks e).subset hk⟩⟩
@[irreducible] def spTurned (K : PySem.W.Frag) : Sp := fun vs H Q _ => ∃ (l : Addr) (z : Str) (ks : List Str), vs = [.ref l, .str z] ∧ H l = some (.lst (ks.map V.str)) ∧ ks.length ≤ 100 ∧ ∀ p H', H p = none → Same H H' → H' p = some (.lst ((turnL ks z).map V.str)) → Q (.ref p) H'
theorem use_turned {K : PySem.W.Frag} {H : Hp} {l : Addr} {z : Str} {ks : List Str} {Q : VK} {E : XK} (el : H l = some (.lst (ks.map V.str))) (few : ks.length ≤ 100) (k : ∀ p H', H p = none → Same H H' → H' p = some (.lst ((turnL ks z).map V.str)) → Q (.ref p) H') : spTurned K [.ref l, .str z] H Q E := by
  unfold spTurned
  exact ⟨l, z, ks, rfl, el, few, k⟩
theorem cut_low {xs : List V} (n : Nat) (h : n ≤ xs.length) : cutV xs none (some (n : Int)) = xs.take n := by
  unfold cutV
  rw [HT.sIx_none, HT.sIx_nat, List.drop_zero, Nat.min_eq_left h, Nat.sub_zero]
theorem cut_high {xs : List V} (n : Nat) (h : n ≤ xs.length) : cutV xs (some (n : Int)) none = xs.drop n := by
  unfold cutV
  rw [HT.sIx_none, HT.sIx_nat, Nat.min_eq_left h]
  exact List.take_of_length_le (by rw [List.length_drop]; exact Nat.le_refl _)
@[irreducible] def spNext (K : PySem.W.Frag) : Sp := fun vs H Q _ => ∃ (p q l2 l3 : Addr) (d : Td) (parts keys hands : List Str), vs = [.ref p, .ref q, .ref l2, .ref l3] ∧ StA H p ∧ TdAt H q d ∧ TdG parts keys hands d ∧ H l2 = some (.lst (keys.map V.str)) ∧ H l3 = some (.lst (hands.map V.str)) ∧
  0 < parts.length ∧ parts.length ≤ 3 ∧ 0 < keys.length ∧ keys.length ≤ 50 ∧ 0 < hands.length ∧ hands.length ≤ 50 ∧ hands.Nodup ∧ ∀ q' d' H', TdG parts keys hands d' → H q' = none → TdAt H' q' d' → StA H' p → SameB p H H' → Q (.ref q') H'
section
variable {P : Program} {w : World} {K : PySem.W.Frag} {mg : Str → Option Value} {base : Heap}
abbrev s_law_turned : Stmt := top 29
theorem sc_law_turned : FnScope ["items", "item", "one"] ["items", "item"] (defScope s_law_turned) := ⟨rfl, rfl, rfl, by decide +kernel, rfl, by decide +kernel, by decide +kernel⟩
theorem ok_turned (D : DefK K mg "_law_turned" s_law_turned) : Cal P w K mg base CX0 1 "_law_turned" (spTurned K) := by
  unfold spTurned
  refine D.cal sc_law_turned (fun _ _ _ _ _ _ us hl => match us, hl with | [_, _], _ => rfl) (fun vs H Q E h => ?_) fun f cdv A outer s H vs Q E hr h => ?_
  · obtain ⟨l, z, ks, rfl, _⟩ := h; rfl
  · obtain ⟨l, z, ks, rfl, el, few, k⟩ := h
    refine ⟨_, (pss_one (ps_ret (pe_ifExp (pt_cmpR (r := rIn K false) op_in_seq (pv 1) (pv 0) rfl) (pe_lc (own := [("one", 2)]) (g := gName 2) (by rfl) sc_law_turned.nd (pi_list (pv 0)) (blkOk_by (own := [("one", 2)]) (N := ["items", "item", "one"]) (sc := defScope s_law_turned) (by decide +kernel)) (fun _ _ _ _ _ => pg_name (i := 2) sc_law_turned.nd rfl (Or.inl rfl)) (fun _ _ _ _ _ => (pts_one (pt_cmpR op_ne (pv 2) (pv 1) (nomark _)))) (fun _ _ _ _ _ => (pv 2))) (pe_op op_cat (pv 0) (pe_lst (pa_cons (pv 1) pa_nil)))))), ?_⟩
    refine ⟨_, rfl, _, rfl, l, _, rfl, .inl (SqL.of el), rfl, flat_strs, _, rfl, ?_⟩
    show if inV (V.str z) (ks.map V.str) = true then _ else _
    rw [inV_strs]
    unfold turnL at k
    by_cases c : z ∈ ks
    · rw [if_pos c] at k
      rw [decide_eq_true c]
      refine iteT ⟨_, rfl, l, rfl, ⟨_, SqL.of el⟩, fun D nD => ?_⟩
      refine lc_list (K := K) (a := l) (xs := ks.map V.str) (fun i H' => H' = upd H D (.lst (((ks.take i).filter fun k => !decide (k = z)).map V.str))) rfl (fun _ H' _ e => by rw [e]; exact SqL.of (same_new nD _ _ el)) ?_ ?_
      · rintro i x H' hx rfl
        obtain ⟨y, hy, rfl⟩ := str_at hx
        refine ⟨rfl, ⟨_, rfl, _, rfl, rfl, _, rfl, ?_⟩⟩
        by_cases c2 : y = z
        · rw [c2, decide_eq_true rfl]
          refine iteF ?_
          rw [c2] at hy
          rw [fil_take hy, decide_eq_true rfl]
          show _ = upd H D (.lst ((((ks.take i).filter fun k => !decide (k = z)) ++ []).map V.str))
          rw [List.append_nil]
        · rw [decide_eq_false (fun e => c2 (V.str.inj e))]
          refine iteT ⟨_, rfl, _, upd_same, fil_few _ (by omega), ?_⟩
          rw [upd_upd, fil_take hy, decide_eq_false c2, List.map_append]; rfl
      · intro H' e
        rw [List.length_map, List.take_length] at e
        rw [e]
        exact k D _ nD (same_new nD) upd_same
    · rw [if_neg c] at k
      rw [decide_eq_false c]
      refine iteF ⟨_, rfl, _, rfl, by show 1 ≤ sizeLine; decide, fun b nb => ?_⟩
      refine ⟨l, b, ks.map V.str, [.str z], rfl, rfl, same_new nb _ _ el, upd_same, by rw [List.length_map, sizeLine_eq]; show ks.length + 1 ≤ _; omega, fun p np => ?_⟩
      have s1 := same_new' (o := .lst (ks.map V.str ++ [.str z])) (same_new (o := .lst [.str z]) nb) np
      exact k p _ ((same_new nb).free np) s1 (by rw [upd_same, List.map_append]; rfl)
abbrev s_law_next : Stmt := top 30
theorem sc_law_next : FnScope ["stream", "told", "keys", "hands", "rows", "vouch", "least", "signing", "at", "way", "part", "likes", "own"] ["stream", "told", "keys", "hands"] (defScope s_law_next) := ⟨rfl, rfl, rfl, by decide +kernel, rfl, by decide +kernel, by decide +kernel⟩
theorem ok_next (D : DefK K mg "_law_next" s_law_next) (T : Txt K mg) (G_law_draw : Cal P w K mg base CX0 1 "_law_draw" spDr) (G_law_choose : Cal P w K mg base CX0 2 "_law_choose" (spCh K)) (G_law_some : Cal P w K mg base CX0 2 "_law_some" (spSome K)) (G_law_turned : Cal P w K mg base CX0 1 "_law_turned" (spTurned K)) : Cal P w K mg base CX0 3 "_law_next" (spNext K) := by
  unfold spNext
  refine D.cal sc_law_next (fun _ _ _ _ _ _ us hl => match us, hl with | [_, _, _, _], _ => rfl) (fun vs H Q E h => ?_) fun f cdv A outer s H vs Q E hr h => ?_
  · obtain ⟨p, q, l2, l3, d, parts, keys, hands, rfl, _⟩ := h; rfl
  · obtain ⟨p, q, l2, l3, d, parts, keys, hands, rfl, st, tda, tdg, ek, eh, p0, p3, k0, k5, h0, h5, hn, k⟩ := h
    refine ⟨_, (pss_cons (ps_asg (pv 1) (pg_tup rfl (pgs_cons (pg_name (i := 4) sc_law_next.nd rfl (Or.inl rfl)) (pgs_cons (pg_name (i := 5) sc_law_next.nd rfl (Or.inl rfl)) (pgs_cons (pg_name (i := 6) sc_law_next.nd rfl (Or.inl rfl)) (pgs_cons (pg_name (i := 7) sc_law_next.nd rfl (Or.inl rfl)) pgs_nil))))))
      (pss_cons (ps_par (i := 8) (j := 9) (by rfl) sc_law_next.nd rfl rfl (by decide) rfl rfl (pa_cons (pe_c G_law_draw hr (by decide) rfl (pa_cons (pv 0) (pa_cons (pe_callB call_len_seq (by rfl) T.b_len (by decide +kernel) (pa_cons (pv 4) pa_nil)) pa_nil))) (pa_cons (pe_c G_law_draw hr (by decide) rfl (pa_cons (pv 0) (pa_cons pe_int pa_nil))) pa_nil)) (by rfl))
      (pss_cons (ps_asg (pe_ix (r := rIxL K) ix_list (pv 4) (pv 8) (fun _ _ => rfl)) (pg_tup rfl (pgs_cons (pg_name (i := 10) sc_law_next.nd rfl (Or.inl rfl)) (pgs_cons (pg_name (i := 11) sc_law_next.nd rfl (Or.inl rfl)) (pgs_cons (pg_name (i := 12) sc_law_next.nd rfl (Or.inl rfl)) pgs_nil)))))
      (C8.pss_cut (ps_if (pt_cmpR op_lt (pv 9) pe_int (nomark _)) (pss_one (ps_set (i := 11) sc_law_next.nd rfl (Or.inl rfl) (pe_c G_law_turned hr (by decide) rfl (pa_cons (pv 11) (pa_cons (pe_c G_law_choose hr (by decide) rfl (pa_cons (pv 0) (pa_cons (pv 2) pa_nil))) pa_nil))))) (pss_one (ps_if (pt_cmpR op_lt (pv 9) pe_int (nomark _)) (pss_one (ps_set (i := 12) sc_law_next.nd rfl (Or.inl rfl) (pe_c G_law_choose hr (by decide) rfl (pa_cons (pv 0) (pa_cons (pe_slice sl_list (pe_op op_cat (pv 11) (pv 2)) po_none (po_some (pe_callB (call_max2 rfl) (by rfl) T.b_max (by decide +kernel) (pa_cons pe_int (pa_cons (pe_callB call_len_seq (by rfl) T.b_len (by decide +kernel) (pa_cons (pv 11) pa_nil)) pa_nil))))) pa_nil))))) (pss_one (ps_if (pt_cmpR op_eq (pv 9) pe_int (nomark _)) (pss_one (ps_set (i := 5) sc_law_next.nd rfl (Or.inl rfl) (pe_c G_law_turned hr (by decide) rfl (pa_cons (pv 5) (pa_cons (pe_c G_law_choose hr (by decide) rfl (pa_cons (pv 0) (pa_cons (pv 3) pa_nil))) pa_nil))))) (pss_one (ps_if (pt_cmpR op_eq (pv 9) pe_int (nomark _)) (pss_one (ps_set (i := 7) sc_law_next.nd rfl (Or.inl rfl) (pe_c G_law_some hr (by decide) rfl (pa_cons (pv 0) (pa_cons (pv 3) pa_nil))))) (pss_one (ps_set (i := 6) sc_law_next.nd rfl (Or.inl rfl) (pe_c G_law_draw hr (by decide) rfl (pa_cons (pv 0) (pa_cons pe_int pa_nil))))))))))))
      (pss_one (ps_ret (pe_tup (pa_cons (pe_op op_cat (pe_op op_cat (pe_slice sl_list (pv 4) po_none (po_some (pv 8))) (pe_lst (pa_cons (pe_tup (pa_cons (pv 10) (pa_cons (pv 11) (pa_cons (pv 12) pa_nil)))) pa_nil))) (pe_slice sl_list (pv 4) (po_some (pe_op op_add (pv 8) pe_int)) po_none)) (pa_cons (pv 5) (pa_cons (pv 6) (pa_cons (pv 7) pa_nil))))))))))), ?_⟩
    obtain ⟨⟨lr, lv, sv, e1, e2, e3, e4⟩, rs⟩ := id tda
    have rl : d.rows.length = parts.length := by rw [← tdg.zs, List.length_map]
    refine ⟨_, rfl, q, _, rfl, SqT.of e1, rfl, _, _, rfl, _, _, rfl, _, _, rfl, _, _, rfl, rfl, ?_⟩
    refine ⟨_, rfl, _, rfl, lr, _, rfl, .inl (SqL.of e2), use_draw st (by rw [List.length_map, List.length_map, rl]; omega) (by rw [List.length_map, List.length_map, rl]; omega) fun at_ H1 a0 a1 st1 s1 => ?_⟩
    rw [List.length_map, List.length_map, rl] at a1
    refine ⟨_, rfl, use_draw st1 (by decide) (by decide) fun way H2 w0 w1 st2 s2 => ⟨_, _, rfl, ?_⟩⟩
    have s02 := s1.trans s2
    have td2 := tda.keep st s02
    obtain ⟨n, rfl⟩ : ∃ n : Nat, at_ = (n : Int) := ⟨at_.toNat, by omega⟩
    have hn3 : n < d.rows.length := by omega
    have ern : d.rows[n]? = some (d.rows[n]'hn3) := List.getElem?_eq_getElem hn3
    generalize d.rows[n]'hn3 = r at ern
    have hr2 := List.mem_of_getElem? ern
    have er2 := s02 _ _ e2 (st.no e2 refs_no)
    have R2 := (rs r hr2).keep st s02
    obtain ⟨ru, rk⟩ := tdg.rows r hr2
    have rlen := rk.len
    have vlen := tdg.vo.len
    refine ⟨_, rfl, _, rfl, lr, _, _, .ref r.t, rfl, rfl, SqL.of er2, atI_nat (by rw [List.getElem?_map, List.getElem?_map, ern]; rfl), r.t, _, rfl, SqT.of R2.tp, rfl, _, _, rfl, _, _, rfl, _, _, rfl, rfl, ?_⟩
    have ek2 := s02 _ _ ek (st.neS ek)
    have eh2 := s02 _ _ eh (st.neS eh)
    have ev2 := s02 _ _ e3 (st.neS e3)
    have sg2 := e4.keep st s02
    refine ⟨fun σ' H' => ∃ (la lv' : Addr) (ks vo : List Str) (u : Str) (le : Int) (sv' : V) (sg : Option (List Str)), σ' = [some (.ref p), some (.ref q), some (.ref l2), some (.ref l3), some (.ref lr), some (.ref lv'), some (.int le), some sv', some (.int n), some (.int way), some (.str r.z), some (.ref la), some (.str u)] ∧ StA H' p ∧ SameB p H H' ∧ H' la = some (.lst (ks.map V.str)) ∧ Sb keys ks ∧ u ∈ keys ∧ H' lv' = some (.lst (vo.map V.str)) ∧ Sb hands vo ∧ 0 ≤ le ∧ le ≤ 4 ∧ SgAt H' sv' sg ∧ ∀ ks, sg = some ks → Sb hands ks, ?_, ?_⟩
    · refine ⟨_, rfl, _, _, rfl, rfl, _, rfl, ?_⟩
      by_cases c1 : way < 3
      · refine iteTe (decide_eq_true c1) ⟨_, rfl, _, rfl, _, rfl, use_choose st2 (SqL.of ek2) (st2.neS ek2) (by rw [List.length_map]; exact k0) (by rw [List.length_map]; omega) fun v H3 hv st3 s3 => ?_⟩
        obtain ⟨z, hz, rfl⟩ := str_mem hv
        refine use_turned (s3 _ _ R2.ls (st2.neS R2.ls)) (by omega) fun la H4 nla s4 e4' => ⟨la, lv, turnL r.ks z, d.vo, r.u, d.le, sv, d.sg, rfl, st3.keep s4, s02.trans (s3.trans (SameB.of s4)), e4', rk.turn hz, ru, s4 _ _ (s3 _ _ ev2 (st2.neS ev2)), tdg.vo, tdg.le.1, tdg.le.2, sg2.keep st2 (s3.trans (SameB.of s4)), tdg.sg⟩
      refine iteFe (decide_eq_false c1) ⟨_, rfl, _, _, rfl, rfl, _, rfl, ?_⟩
      by_cases c2 : way < 5
      · refine iteTe (decide_eq_true c2) ⟨_, rfl, _, rfl, _, rfl, r.a, l2, _, _, rfl, rfl, R2.ls, ek2, by rw [List.length_map, List.length_map, sizeLine_eq]; omega, fun pc npc => ?_⟩
        have sc := same_new (o := .lst (r.ks.map V.str ++ keys.map V.str)) npc
        refine ⟨_, rfl, r.a, _, rfl, .inl (SqL.of (sc _ _ R2.ls)), _, _, rfl, _, rfl, pc, _, rfl, SqL.of upd_same, fun ps nps => ?_⟩
        have em : (if ((r.ks.map V.str).length : Int) > 1 then ((r.ks.map V.str).length : Int) else 1) = ((max 1 r.ks.length : Nat) : Int) := by
          rw [List.length_map]; split <;> omega
        rw [em, ← List.map_append, cut_low _ (by rw [List.length_map, List.length_append]; omega)]
        have sp_ := same_new' (o := .lst (((r.ks ++ keys).map V.str).take (max 1 r.ks.length))) sc nps
        rw [← List.map_append] at sp_
        refine use_choose (st2.keep sp_) (SqL.of upd_same) ((st2.keep sc).ne nps) (by rw [List.length_take, List.length_map, List.length_append]; omega) (by rw [List.length_take, List.length_map, List.length_append]; omega) fun v H3 hv st3 s3 => ?_
        obtain ⟨z, hz, rfl⟩ := str_mem (List.mem_of_mem_take hv)
        have zk : z ∈ keys := (List.mem_append.mp hz).elim (rk.sub z) id
        have s23 := (SameB.of (p := p) sp_).trans s3
        exact ⟨r.a, lv, r.ks, d.vo, z, d.le, sv, d.sg, rfl, st3, s02.trans s23, s23 _ _ R2.ls (st2.neS R2.ls), rk, zk, s23 _ _ ev2 (st2.neS ev2), tdg.vo, tdg.le.1, tdg.le.2, sg2.keep st2 s23, tdg.sg⟩
      refine iteFe (decide_eq_false c2) ⟨_, rfl, rfl, _, rfl, ?_⟩
      by_cases c3 : way = 5
      · refine iteTe (decide_eq_true (by rw [c3])) ⟨_, rfl, _, rfl, _, rfl, use_choose st2 (SqL.of eh2) (st2.neS eh2) (by rw [List.length_map]; exact h0) (by rw [List.length_map]; omega) fun v H3 hv st3 s3 => ?_⟩
        obtain ⟨z, hz, rfl⟩ := str_mem hv
        refine use_turned (s3 _ _ ev2 (st2.neS ev2)) (by omega) fun la H4 nla s4 e4' => ⟨r.a, la, r.ks, turnL d.vo z, r.u, d.le, sv, d.sg, rfl, st3.keep s4, s02.trans (s3.trans (SameB.of s4)), s4 _ _ (s3 _ _ R2.ls (st2.neS R2.ls)), rk, ru, e4', tdg.vo.turn hz, tdg.le.1, tdg.le.2, sg2.keep st2 (s3.trans (SameB.of s4)), tdg.sg⟩
      refine iteFe (decide_eq_false (fun e => c3 (V.int.inj e))) ⟨_, rfl, rfl, _, rfl, ?_⟩
      by_cases c4 : way = 6
      · refine iteTe (decide_eq_true (by rw [c4])) ⟨_, rfl, _, rfl, use_some st2 eh2 (by omega) fun D us H3 nD sub e3' st3 s3 => ⟨r.a, lv, r.ks, d.vo, r.u, d.le, .ref D, some us, rfl, st3, s02.trans s3, s3 _ _ R2.ls (st2.neS R2.ls), rk, ru, s3 _ _ ev2 (st2.neS ev2), tdg.vo, tdg.le.1, tdg.le.2, ⟨D, rfl, e3'⟩, fun ks e => by
          rw [← Option.some.inj e]; exact ⟨hn.sublist sub, fun k hk => sub.subset hk⟩⟩⟩
      refine iteFe (decide_eq_false (fun e => c4 (V.int.inj e))) ⟨_, rfl, use_draw st2 (by decide) (by decide) fun le H3 b0 b1 st3 s3 => ⟨r.a, lv, r.ks, d.vo, r.u, le, sv, d.sg, rfl, st3, s02.trans s3, s3 _ _ R2.ls (st2.neS R2.ls), rk, ru, s3 _ _ ev2 (st2.neS ev2), tdg.vo, b0, by omega, sg2.keep st2 s3, tdg.sg⟩⟩
    · rintro σ' H' ⟨la, lv', ks, vo, u, le, sv', sg, rfl, st', s', ela, skS, uK, elv, vS, le0, le4, sgA, sgS⟩
      have er' := s' _ _ e2 (st.no e2 refs_no)
      have ro' : ∀ x ∈ d.rows, TRow H' x := fun x hx => (rs x hx).keep st s'
      have ll : ((d.rows.map (·.t)).map V.ref).length = d.rows.length := by rw [List.length_map, List.length_map]
      refine ⟨_, rfl, _, rfl, n, rfl, lr, _, rfl, SqL.of er', fun pa npa => ?_⟩
      rw [cut_low n (by rw [ll]; omega)]
      have g1 := same_new (o := .lst (((d.rows.map (·.t)).map V.ref).take n)) npa
      refine ⟨_, rfl, _, rfl, _, rfl, by show 3 ≤ sizeLine; decide, fun tn ntn => ⟨by show 1 ≤ sizeLine; decide, fun pb npb => ?_⟩⟩
      have g2 := same_new (o := .tup [.str r.z, .ref la, .str u]) ntn
      have g3 := same_new (o := .lst [.ref tn]) npb
      refine ⟨pa, pb, _, _, rfl, rfl, g3 _ _ (g2 _ _ upd_same), upd_same, by rw [List.length_take, ll, sizeLine_eq]; show min n d.rows.length + 1 ≤ _; omega, fun pc npc => ?_⟩
      have g4 := same_new (o := .lst (((d.rows.map (·.t)).map V.ref).take n ++ [.ref tn])) npc
      have g14 := ((g1.trans g2).trans g3).trans g4
      refine ⟨_, rfl, _, rfl, n, 1, rfl, rfl, _, rfl, lr, _, rfl, SqL.of (g14 _ _ er'), fun pd npd => ?_⟩
      rw [show ((n : Int) + 1) = ((n + 1 : Nat) : Int) by omega, cut_high (n + 1) (by rw [ll]; omega)]
      have g5 := same_new (o := .lst (((d.rows.map (·.t)).map V.ref).drop (n + 1))) npd
      refine ⟨pc, pd, _, _, rfl, rfl, g5 _ _ upd_same, upd_same, by rw [List.length_append, List.length_take, List.length_drop, ll, sizeLine_eq]; show min n d.rows.length + 1 + _ ≤ _; omega, fun pe npe => ?_⟩
      have g6 := same_new (o := .lst (((d.rows.map (·.t)).map V.ref).take n ++ [.ref tn] ++ ((d.rows.map (·.t)).map V.ref).drop (n + 1))) npe
      refine ⟨_, rfl, _, rfl, _, rfl, by show 4 ≤ sizeLine; decide, fun q' nq' => ?_⟩
      have g7 := same_new (o := .tup [.ref pe, .ref lv', .int le, sv']) nq'
      have g17 := ((g14.trans g5).trans g6).trans g7
      have sp : d.rows = d.rows.take n ++ r :: d.rows.drop (n + 1) := by
        have z1 := List.getElem?_eq_some_iff.mp ern
        obtain ⟨hlt, ez⟩ := z1
        rw [← ez, List.getElem_cons_drop, List.take_append_drop]
      have eT : (((d.rows.take n ++ [(⟨r.z, tn, la, ks, u⟩ : Use)] ++ d.rows.drop (n + 1)).map fun x : Use => x.t).map V.ref : List V) = ((d.rows.map (·.t)).map V.ref).take n ++ [.ref tn] ++ ((d.rows.map (·.t)).map V.ref).drop (n + 1) := by
        simp only [List.map_append, List.map_take, List.map_drop, List.map_cons, List.map_nil]
      refine k q' ⟨d.rows.take n ++ [⟨r.z, tn, la, ks, u⟩] ++ d.rows.drop (n + 1), vo, le, sg⟩ _ ⟨?_, fun x hx => ?_, vS, ⟨le0, le4⟩, sgS⟩ (by
        have z0 := (((g14.trans g5).trans g6)).free nq'
        have qp : q' ≠ p := (st'.keep ((g14.trans g5).trans g6)).ne nq'
        exact s'.free z0 qp) ⟨⟨pe, lv', sv', upd_same, g7 _ _ (by rw [upd_same, eT]), g17 _ _ elv, ?_⟩, fun x hx => ?_⟩ (st'.keep g17) (s'.trans (SameB.of g17))
      · have z1 := tdg.zs
        rw [sp] at z1
        rw [← z1]
        simp only [List.map_append, List.map_cons, List.map_nil, List.append_assoc, List.cons_append, List.nil_append]
      · rcases List.mem_append.mp hx with hx | hx
        · rcases List.mem_append.mp hx with hx | hx
          · exact tdg.rows x (List.mem_of_mem_take hx)
          · rw [List.mem_singleton.mp hx]; exact ⟨uK, skS⟩
        · exact tdg.rows x (List.mem_of_mem_drop hx)
      · show SgAt _ sv' sg
        cases sg with
        | none => exact sgA
        | some ks2 =>
          obtain ⟨l0, a1, a2⟩ := sgA
          exact ⟨l0, a1, g17 _ _ a2⟩
      · have ktr : ∀ x ∈ d.rows, TRow _ x := fun x hx => ⟨g17 _ _ (ro' x hx).tp, g17 _ _ (ro' x hx).ls⟩
        rcases List.mem_append.mp hx with hx | hx
        · rcases List.mem_append.mp hx with hx | hx
          · exact ktr x (List.mem_of_mem_take hx)
          · rw [List.mem_singleton.mp hx]
            exact ⟨(((g3.trans g4).trans g5).trans (g6.trans g7)) _ _ upd_same, g17 _ _ ela⟩
        · exact ktr x (List.mem_of_mem_drop hx)
end

end K08

namespace K08
open PySem PySem.Spec PyProof.Rows L2 Jg
local macro_rules | `(tactic| walk_at "rd1") => `(tactic| (first
  | refine ⟨_, rfl, ?_⟩
  | refine ⟨_, _, rfl, rfl, ?_⟩
  | refine ⟨_, _, rfl, ?_⟩
  | refine ⟨rfl, ?_⟩
  | (refine ⟨show (0 : Int) < _ by omega, ?_⟩)
  | (refine ⟨Or.inl ⟨by omega, by omega⟩, ?_⟩)
  | (refine ⟨Or.inr ⟨by omega, by omega⟩, ?_⟩)
  | (refine ⟨(⟨by decide, by decide, by decide⟩ : CPow _ _), ?_⟩)
  | refine Or.inl ⟨_, rfl, ?_⟩
  | refine Or.inr ⟨_, rfl, ?_⟩
  | fail "rd"))
local macro_rules | `(tactic| walk_at "rd") => `(tactic| repeat' walk_at "rd1")


/-! ### several that are told -/
def hid (M : List Addr) (H : Hp) : Hp := fun q => if q ∈ M then none else H q
theorem hid_in {M : List Addr} {H : Hp} {q : Addr} {o : HO} (h : H q = some o) (n : q ∉ M) : hid M H q = some o := by unfold hid; rw [if_neg n]; exact h
theorem hid_get {M : List Addr} {H : Hp} {q : Addr} {o : HO} (h : hid M H q = some o) : H q = some o ∧ q ∉ M := by
  unfold hid at h
  by_cases c : q ∈ M
  · rw [if_pos c] at h; cases h
  · rw [if_neg c] at h; exact ⟨h, c⟩
theorem hid_same {M : List Addr} {H : Hp} : Same (hid M H) H := fun q o e => (hid_get e).1
theorem hid_keepB {M : List Addr} {p : Addr} {H H' : Hp} (s : SameB p H H') : SameB p (hid M H) (hid M H') := fun q o e n => hid_in (s _ _ (hid_get e).1 n) (hid_get e).2
theorem hid_mut {f : Addr} {H : Hp} {o : HO} : hid [f] (upd H f o) = hid [f] H := funext fun q => by
  unfold hid
  by_cases c : q ∈ [f]
  · rw [if_pos c, if_pos c]
  · rw [if_neg c, if_neg c, upd_ne (fun e => c (by rw [e]; exact List.mem_singleton.mpr rfl))]
theorem TdAt.hide {H : Hp} {q f q0 : Addr} {qs : List Addr} {d : Td} (h : TdAt H q d) (rn : d.rows ≠ []) (ef : H f = some (.lst ((q0 :: qs).map V.ref))) (e0 : ∃ a b c e, H q0 = some (.tup [a, b, c, e])) : TdAt (hid [f] H) q d := by
  obtain ⟨⟨lr, lv, sv, e1, e2, e3, e4⟩, rs⟩ := h
  have tup : ∀ {x : Addr} {xs : List V}, H x = some (.tup xs) → hid [f] H x = some (.tup xs) := fun e => hid_in e fun m => by
    rw [List.mem_singleton.mp m, ef] at e; cases e
  have txt : ∀ {x : Addr} {ks : List Str}, H x = some (.lst (ks.map V.str)) → hid [f] H x = some (.lst (ks.map V.str)) := fun {x ks} e => hid_in e fun m => by
    rw [List.mem_singleton.mp m, ef] at e
    cases ks with
    | nil => cases e
    | cons a r => injection e with e; injection e with e; injection e with e1 e2; cases e1
  refine ⟨⟨lr, lv, sv, tup e1, hid_in e2 fun m => ?_, txt e3, ?_⟩, fun r hr => ⟨tup (rs r hr).tp, txt (rs r hr).ls⟩⟩
  · rw [List.mem_singleton.mp m, ef] at e2
    cases hd : d.rows with
    | nil => exact rn hd
    | cons r0 rr =>
      rw [hd] at e2
      injection e2 with e2; injection e2 with e2; injection e2 with a1 a2
      have z := (rs r0 (by rw [hd]; exact List.mem_cons_self)).tp
      obtain ⟨a, b, c, e, ee⟩ := e0
      have a1' : q0 = r0.t := V.ref.inj a1
      rw [← a1', ee] at z
      cases z
  · cases hs : d.sg with
    | none => rw [hs] at e4; exact e4
    | some ks =>
      rw [hs] at e4
      obtain ⟨l0, a1, a2⟩ := e4
      exact ⟨l0, a1, txt a2⟩
inductive TdsAt (parts keys hands : List Str) (H : Hp) : List Addr → List Td → Prop
  | nil : TdsAt parts keys hands H [] []
  | cons {q : Addr} {d : Td} {qs : List Addr} {ds : List Td} : TdAt H q d → TdG parts keys hands d → TdsAt parts keys hands H qs ds → TdsAt parts keys hands H (q :: qs) (d :: ds)
theorem TdsAt.keep {parts keys hands : List Str} {H H' : Hp} {p : Addr} (st : StA H p) (s : SameB p H H') : ∀ {qs : List Addr} {ds : List Td}, TdsAt parts keys hands H qs ds → TdsAt parts keys hands H' qs ds
  | _, _, .nil => .nil
  | _, _, .cons a g r => .cons (a.keep st s) g (r.keep st s)
theorem TdsAt.same {parts keys hands : List Str} {H H' : Hp} (s : Same H H') : ∀ {qs : List Addr} {ds : List Td}, TdsAt parts keys hands H qs ds → TdsAt parts keys hands H' qs ds
  | _, _, .nil => .nil
  | _, _, .cons a g r => .cons (a.same s) g (r.same s)
theorem TdsAt.app {parts keys hands : List Str} {H : Hp} : ∀ {qs q2 : List Addr} {ds d2 : List Td}, TdsAt parts keys hands H qs ds → TdsAt parts keys hands H q2 d2 → TdsAt parts keys hands H (qs ++ q2) (ds ++ d2)
  | _, _, _, _, .nil, h => h
  | _, _, _, _, .cons a g r, h => .cons a g (r.app h)
theorem TdsAt.at_ {parts keys hands : List Str} {H : Hp} : ∀ {qs : List Addr} {ds : List Td} {i : Nat} {q : Addr}, TdsAt parts keys hands H qs ds → qs[i]? = some q → ∃ d, ds[i]? = some d ∧ TdAt H q d ∧ TdG parts keys hands d
  | _, _, i, _, .nil, h => by simp at h
  | _, _, 0, _, .cons a g _, h => by cases Option.some.inj h; exact ⟨_, rfl, a, g⟩
  | _, _, i + 1, _, .cons _ _ r, h => let ⟨d, a, b⟩ := r.at_ (i := i) (by simpa using h); ⟨d, by simpa using a, b⟩
theorem TdsAt.len {parts keys hands : List Str} {H : Hp} : ∀ {qs : List Addr} {ds : List Td}, TdsAt parts keys hands H qs ds → qs.length = ds.length
  | _, _, .nil => rfl
  | _, _, .cons _ _ r => by rw [List.length_cons, List.length_cons, r.len]
structure Gn (p l1 l2 l3 : Addr) (parts keys hands : List Str) (H : Hp) : Prop where
  st : StA H p
  e1 : H l1 = some (.lst (parts.map V.str))
  e2 : H l2 = some (.lst (keys.map V.str))
  e3 : H l3 = some (.lst (hands.map V.str))
structure Wn (parts keys hands : List Str) : Prop where
  p0 : 0 < parts.length
  p3 : parts.length ≤ 3
  k0 : 0 < keys.length
  k5 : keys.length ≤ 50
  kn : keys.Nodup
  h0 : 0 < hands.length
  h5 : hands.length ≤ 50
  hn : hands.Nodup
theorem Gn.keep {p l1 l2 l3 : Addr} {parts keys hands : List Str} {H H' : Hp} (g : Gn p l1 l2 l3 parts keys hands H) (s : SameB p H H') (st : StA H' p) : Gn p l1 l2 l3 parts keys hands H' :=
  ⟨st, s _ _ g.e1 (g.st.neS g.e1), s _ _ g.e2 (g.st.neS g.e2), s _ _ g.e3 (g.st.neS g.e3)⟩
theorem use_told {K : PySem.W.Frag} {H : Hp} {p l1 l2 l3 : Addr} {parts keys hands : List Str} {Q : VK} {E : XK} (g : Gn p l1 l2 l3 parts keys hands H) (w : Wn parts keys hands) (k : ∀ q d H', TdG parts keys hands d → H q = none → TdAt H' q d → StA H' p → SameB p H H' → Q (.ref q) H') : spTold K [.ref p, .ref l1, .ref l2, .ref l3] H Q E :=
  ⟨p, l1, l2, l3, parts, keys, hands, rfl, g.st, g.e1, g.e2, g.e3, w.p3, w.k0, w.k5, w.kn, w.h5, fun q d H' ok nq td st s => k q d H' (ok.g w.hn) nq td st s⟩
theorem use_next {K : PySem.W.Frag} {H : Hp} {p q l1 l2 l3 : Addr} {d : Td} {parts keys hands : List Str} {Q : VK} {E : XK} (g : Gn p l1 l2 l3 parts keys hands H) (w : Wn parts keys hands) (td : TdAt H q d) (tg : TdG parts keys hands d) (k : ∀ q' d' H', TdG parts keys hands d' → H q' = none → TdAt H' q' d' → StA H' p → SameB p H H' → Q (.ref q') H') : spNext K [.ref p, .ref q, .ref l2, .ref l3] H Q E := by
  unfold spNext
  exact ⟨p, q, l2, l3, d, parts, keys, hands, rfl, g.st, td, tg, g.e2, g.e3, w.p0, w.p3, w.k0, w.k5, w.h0, w.h5, w.hn, k⟩
@[irreducible] def spToldI (K : PySem.W.Frag) : Sp := spTold K
theorem use_toldI {K : PySem.W.Frag} {H : Hp} {p l1 l2 l3 : Addr} {parts keys hands : List Str} {Q : VK} {E : XK} (g : Gn p l1 l2 l3 parts keys hands H) (w : Wn parts keys hands) (k : ∀ q d H', TdG parts keys hands d → H q = none → TdAt H' q d → StA H' p → SameB p H H' → Q (.ref q) H') : spToldI K [.ref p, .ref l1, .ref l2, .ref l3] H Q E := by
  unfold spToldI
  exact use_told g w k
theorem TdG.rn {parts keys hands : List Str} {d : Td} (g : TdG parts keys hands d) (w : Wn parts keys hands) : d.rows ≠ [] := fun e => by
  have z := g.zs
  rw [e] at z
  have := w.p0
  rw [← z] at this
  cases this
theorem TdAt.four {H : Hp} {q : Addr} {d : Td} (h : TdAt H q d) : ∃ a b c e, H q = some (.tup [a, b, c, e]) := let ⟨⟨_, _, _, e, _⟩, _⟩ := h; ⟨_, _, _, _, e⟩
@[irreducible] def spTolds (K : PySem.W.Frag) : Sp := fun vs H Q _ => ∃ (p l1 l2 l3 : Addr) (n : Nat) (parts keys hands : List Str), vs = [.ref p, .int n, .ref l1, .ref l2, .ref l3] ∧ Gn p l1 l2 l3 parts keys hands H ∧ Wn parts keys hands ∧ 1 ≤ n ∧ n ≤ 100 ∧
  ∀ f qs ds H', H f = none → f ≠ p → qs.length = n → H' f = some (.lst (qs.map V.ref)) → TdsAt parts keys hands H' qs ds → StA H' p → SameB p H H' → Q (.ref f) H'
section
variable {P : Program} {w : World} {K : PySem.W.Frag} {mg : Str → Option Value} {base : Heap}
abbrev s_law_tolds : Stmt := top 31
theorem sc_law_tolds : FnScope ["stream", "count", "parts", "keys", "hands", "found", "turn", "later"] ["stream", "count", "parts", "keys", "hands"] (defScope s_law_tolds) := ⟨rfl, rfl, rfl, by decide +kernel, rfl, by decide +kernel, by decide +kernel⟩
theorem ok_tolds (D : DefK K mg "_law_tolds" s_law_tolds) (T : Txt K mg) (G_law_draw : Cal P w K mg base CX0 1 "_law_draw" spDr) (G_law_told : Cal P w K mg base CX0 3 "_law_told" (spToldI K)) (G_law_next : Cal P w K mg base CX0 3 "_law_next" (spNext K)) : Cal P w K mg base CX0 4 "_law_tolds" (spTolds K) := by
  unfold spTolds
  refine D.cal sc_law_tolds (fun _ _ _ _ _ _ us hl => match us, hl with | [_, _, _, _, _], _ => rfl) (fun vs H Q E h => ?_) fun f0 cdv A outer s H vs Q E hr h => ?_
  · obtain ⟨p, l1, l2, l3, n, parts, keys, hands, rfl, _⟩ := h; rfl
  · obtain ⟨p, l1, l2, l3, n, parts, keys, hands, rfl, g, wn, n1, n9, k⟩ := h
    refine ⟨_, (pss_cons (ps_set (i := 5) sc_law_tolds.nd rfl (Or.inl rfl) (pe_lst (pa_cons (pe_c G_law_told hr (by decide) rfl (pa_cons (pv 0) (pa_cons (pv 2) (pa_cons (pv 3) (pa_cons (pv 4) pa_nil))))) pa_nil)))
      (pss_cons (ps_for PassesOwn.never rfl (pi_range1 (by rfl) T.b_range (pa_cons (pe_op op_sub (pv 1) pe_int) pa_nil)) (pg_name (i := 6) sc_law_tolds.nd rfl (Or.inl rfl)) (pss_cons (ps_set (i := 7) sc_law_tolds.nd rfl (Or.inl rfl) (pe_c G_law_next hr (by decide) rfl (pa_cons (pv 0) (pa_cons (pe_ix (r := rIxL K) ix_list (pv 5) (pe_un un_neg pe_int) (fun _ _ => rfl)) (pa_cons (pv 3) (pa_cons (pv 4) pa_nil))))))
      (pss_one (ps_expr (pe_bm F.plainAttrs_list F.slot_list_append F.type_list_append mt_append (pv 5) (pa_cons (pe_ifExp (pt_cmpR op_gt (pe_c G_law_draw hr (by decide) rfl (pa_cons (pv 0) (pa_cons pe_int pa_nil))) pe_int (nomark _)) (pv 7) (pe_c G_law_next hr (by decide) rfl (pa_cons (pv 0) (pa_cons (pv 7) (pa_cons (pv 3) (pa_cons (pv 4) pa_nil)))))) pa_nil))))))
      (pss_one (ps_ret (pv 5))))), ?_⟩
    refine ⟨_, rfl, _, rfl, _, rfl, _, rfl, use_toldI g wn fun q0 d0 H1 g0 nq0 td0 st1 s1 => ⟨by show 1 ≤ sizeLine; decide, fun f nf => ?_⟩⟩
    have fp : f ≠ p := st1.ne nf
    have ef : upd H1 f (.lst [.ref q0]) f = some (.lst [.ref q0]) := upd_same
    have sf := same_new (o := .lst [.ref q0]) nf
    have nfH : H f = none := s1.free nf fp
    have td0f : TdAt (upd H1 f (.lst [.ref q0])) q0 d0 := td0.same sf
    have ih0 : TdsAt parts keys hands (hid [f] (upd H1 f (.lst [.ref q0]))) [q0] [d0] := .cons (td0f.hide (g0.rn wn) (qs := []) ef td0f.four) g0 .nil
    have st2 := st1.keep sf
    have s2 := s1.trans (SameB.of sf)
    generalize upd H1 f (.lst [.ref q0]) = H2 at *
    refine ⟨_, rfl, _, _, rfl, rfl, _, rfl, by omega, by omega, ?_⟩
    refine for_range (lo := 0) (fun i sg Hi => ∃ (v6 v7 : Option V) (qs : List Addr) (ds : List Td), sg = [some (.ref p), some (.int n), some (.ref l1), some (.ref l2), some (.ref l3), some (.ref f), v6, v7] ∧ StA Hi p ∧ SameB p H Hi ∧ Hi f = some (.lst ((q0 :: qs).map V.ref)) ∧ qs.length = i ∧ TdsAt parts keys hands (hid [f] Hi) (q0 :: qs) (d0 :: ds)) ⟨_, _, [], [], rfl, st2, s2, ef, rfl, ih0⟩ ?_ ?_
    · rintro i sg Hi hi ⟨v6, v7, qs, ds, rfl, sti, si, efi, ql, ih⟩
      have sth : StA (hid [f] Hi) p := by
        obtain ⟨a, b, e, h⟩ := sti
        exact ⟨a, b, hid_in e (fun m => fp (List.mem_singleton.mp m).symm), h⟩
      have four0 : ∀ {Hx : Hp}, SameB p Hi Hx → ∃ a b c e, Hx q0 = some (.tup [a, b, c, e]) := fun {Hx} s => by
        cases ih with | cons a _ _ => exact ((a.same hid_same).keep sti s).four
      have fin : ∀ (qx : Addr) (dx : Td) (Hx : Hp) (v7 : Option V), TdAt Hx qx dx → TdG parts keys hands dx → StA Hx p → SameB p Hi Hx → ∃ (v6 v7' : Option V) (qs2 : List Addr) (ds2 : List Td), ([some (.ref p), some (.int n), some (.ref l1), some (.ref l2), some (.ref l3), some (.ref f), some (.int (0 + (i : Int))), v7] : L2.St) = [some (.ref p), some (.int n), some (.ref l1), some (.ref l2), some (.ref l3), some (.ref f), v6, v7'] ∧ StA (upd Hx f (.lst ((q0 :: qs).map V.ref ++ [.ref qx]))) p ∧ SameB p H (upd Hx f (.lst ((q0 :: qs).map V.ref ++ [.ref qx]))) ∧ upd Hx f (.lst ((q0 :: qs).map V.ref ++ [.ref qx])) f = some (.lst ((q0 :: qs2).map V.ref)) ∧ qs2.length = i + 1 ∧ TdsAt parts keys hands (hid [f] (upd Hx f (.lst ((q0 :: qs).map V.ref ++ [.ref qx])))) (q0 :: qs2) (d0 :: ds2) := fun qx dx Hx v7 tx gx stx sx => by
        have efx := sx _ _ efi fp
        refine ⟨_, _, qs ++ [qx], ds ++ [dx], rfl, ?_, fun q o e nn => by rw [upd_ne (ne_of_none e nfH)]; exact sx _ _ (si _ _ e nn) nn, by rw [upd_same, List.map_cons, List.map_cons, List.map_append]; rfl, by rw [List.length_append, ql]; rfl, ?_⟩
        · obtain ⟨a, b, e, h⟩ := stx
          exact ⟨a, b, by rw [upd_ne fp.symm]; exact e, h⟩
        · rw [hid_mut]
          exact (ih.keep sth (hid_keepB sx)).app (.cons (tx.hide (gx.rn wn) efx (four0 sx)) gx .nil)
      have lt : i < (q0 :: qs).length := by rw [List.length_cons, ql]; omega
      have eq : (q0 :: qs)[i]? = some ((q0 :: qs)[i]'lt) := List.getElem?_eq_getElem lt
      have el : (q0 :: qs).map V.ref = ((q0 :: qs).take i).map V.ref ++ [V.ref ((q0 :: qs)[i]'lt)] := by
        have z := List.take_succ (l := q0 :: qs) (i := i)
        rw [eq, List.take_of_length_le (by rw [List.length_cons, ql]; omega)] at z
        conv => lhs; rw [z]
        rw [List.map_append]; rfl
      generalize (q0 :: qs)[i]'lt = qe at eq el
      obtain ⟨de, _, te, ge⟩ := ih.at_ eq
      have te' : TdAt Hi qe de := te.same hid_same
      have gi := g.keep si sti
      refine ⟨_, rfl, _, rfl, _, rfl, f, _, _, _, rfl, rfl, SqL.of efi, by rw [el]; exact atI_last _ _, _, rfl, _, rfl, use_next gi wn te' ge fun q1 d1 Ha g1 nq1 t1 sta sa => ?_⟩
      refine ⟨_, rfl, .inl ⟨rfl, _, .inl (.inl (sa _ _ efi fp))⟩, ?_⟩
      refine ⟨_, rfl, use_draw sta (by decide) (by decide) fun v Hb v0 v1 stb sb => ⟨_, _, rfl, rfl, _, rfl, ?_⟩⟩
      by_cases c : 0 < v
      · refine iteTe (decide_eq_true c) ⟨_, rfl, f, _, _, rfl, rfl, (sa.trans sb) _ _ efi fp, by rw [List.length_map, List.length_cons, ql, sizeLine_eq]; omega, fin q1 d1 Hb _ (t1.keep sta sb) g1 stb (sa.trans sb)⟩
      · have gb := gi.keep (sa.trans sb) stb
        refine iteFe (decide_eq_false c) ⟨_, rfl, _, rfl, _, rfl, _, rfl, use_next gb wn (t1.keep sta sb) g1 fun q2 d2 Hc g2 nq2 t2 stc sc => ⟨f, _, _, rfl, rfl, ((sa.trans sb).trans sc) _ _ efi fp, by rw [List.length_map, List.length_cons, ql, sizeLine_eq]; omega, fin q2 d2 Hc _ t2 g2 stc ((sa.trans sb).trans sc)⟩⟩
    · rintro sg Hi ⟨v6, v7, qs, ds, rfl, sti, si, efi, ql, ih⟩
      exact ⟨_, rfl, k f (q0 :: qs) (d0 :: ds) Hi nfH fp (by rw [List.length_cons, ql]; omega) efi (ih.same hid_same) sti si⟩
end

end K08

namespace K08
open PySem PySem.Spec PyProof.Rows L2 Jg
local macro_rules | `(tactic| walk_at "rd1") => `(tactic| (first
  | refine ⟨_, rfl, ?_⟩
  | refine ⟨_, _, rfl, rfl, ?_⟩
  | refine ⟨_, _, rfl, ?_⟩
  | refine ⟨rfl, ?_⟩
  | (refine ⟨show (0 : Int) < _ by omega, ?_⟩)
  | (refine ⟨Or.inl ⟨by omega, by omega⟩, ?_⟩)
  | (refine ⟨Or.inr ⟨by omega, by omega⟩, ?_⟩)
  | (refine ⟨(⟨by decide, by decide, by decide⟩ : CPow _ _), ?_⟩)
  | refine Or.inl ⟨_, rfl, ?_⟩
  | refine Or.inr ⟨_, rfl, ?_⟩
  | fail "rd"))
local macro_rules | `(tactic| walk_at "rd") => `(tactic| repeat' walk_at "rd1")


/-! ### contents are made of what was told: rows (as in law_k06) -/
def sD (ks : List Str) : PyData := .list (ks.map PyData.str)
def rowD (r : Use) : PyData := .tuple [.str r.z, sD r.ks, .str r.u]
def sgT (d : Td) : List Str := d.sg.getD d.vo
structure WdL (ks : List Str) (m : Nat) : Prop where
  nd : ks.Nodup
  le : ks.length ≤ m
  wd : ∀ k ∈ ks, Wd k
structure TdR (d : Td) : Prop where
  n1 : 1 ≤ d.rows.length
  n3 : d.rows.length ≤ 3
  nd : (d.rows.map (·.z)).Nodup
  rw_ : ∀ r ∈ d.rows, Wd r.z ∧ Wd r.u ∧ WdL r.ks 8
  vo : WdL d.vo 4
  le : 0 ≤ d.le ∧ d.le ≤ 4
  sg : ∀ ks, d.sg = some ks → WdL ks 4
/-- these contents are what was told -/
structure CtIs (d : Td) (c : Ct) : Prop where
  zs : c.us.map (·.z) = srtW (d.rows.map (·.z))
  us : ∀ r ∈ c.us, ∃ q ∈ d.rows, q.z = r.z ∧ q.u = r.u ∧ r.ks = srtW q.ks
  vo : c.vo = srtW d.vo
  ne : c.ne = d.le
  si : c.si = srtW (sgT d)
theorem WdL.keys {ks : List Str} {m : Nat} (h : WdL ks m) : keysB (ks.map V.str) m = true := by
  unfold keysB
  have e : (ks.map V.str).map txV = ks := by rw [List.map_map]; exact (List.map_congr_left fun _ _ => rfl).trans (List.map_id ks)
  have l := h.le
  have o : (onceW ks).length = ks.length := (once_perm h.nd).length_eq
  rw [e, List.length_map, o]
  have w : (ks.map V.str).all flagV = true := List.all_eq_true.mpr fun x hx => by
    obtain ⟨z, hz, rfl⟩ := List.mem_map.mp hx
    exact (h.wd z hz).ok.2
  rw [w, decide_eq_true rfl, decide_eq_false (by omega)]; rfl
theorem WdL.rev {ks : List Str} {m : Nat} (h : WdL ks m) : WdL ks.reverse m := ⟨(List.reverse_perm ks).nodup_iff.mpr h.nd, by rw [List.length_reverse]; exact h.le, fun k hk => h.wd k (List.mem_reverse.mp hk)⟩
theorem srtW_rev (ks : List Str) : srtW ks.reverse = srtW ks := srtW_congr (List.reverse_perm ks)
/-- a list or a tuple of these words -/
def seqO (b : Bool) (ks : List Str) : HO := if b then .lst (ks.map V.str) else .tup (ks.map V.str)
theorem seqO_is {K : PySem.W.Frag} {H : Hp} {a : Addr} {b : Bool} {ks : List Str} (h : H a = some (seqO b ks)) : SqE K b H a (ks.map V.str) := by
  cases b with
  | true => exact SqL.of h
  | false => exact SqT.of h
theorem seqO_ty {K : PySem.W.Frag} {H : Hp} {a : Addr} {b : Bool} {ks : List Str} (h : H a = some (seqO b ks)) : TyX K H (.ref a) (.type (if b then "list" else "tuple")) := by
  cases b with
  | true => exact .base (.lst h)
  | false => exact .base (.tup h)
theorem kl_of {K : PySem.W.Frag} {H : Hp} {a : Addr} {b : Bool} {ks : List Str} {m : Nat} (h : H a = some (seqO b ks)) (w : WdL ks m) (hm : m ≤ 500) : KLOk K H ⟨a, b, ks⟩ :=
  ⟨seqO_is h, fun H' s => seqO_ty (s _ _ h), Nat.le_trans w.le hm, fun k hk => (w.wd k hk).ok.1⟩
/-- a role's use as it is copied -/
structure CpAt (H : Hp) (D p : Addr) (b : Bool) (r : Row) : Prop where
  pr : H p = some (.tup [.str r.z, .ref r.t])
  tp : H r.t = some (.tup [.ref r.a, .str r.u])
  sq : H r.a = some (seqO b r.ks)
  b_ : r.b = b
  np : p ≠ D
  nt : r.t ≠ D
  na : r.a ≠ D
theorem val_no : ∀ (kvs : List (Key × V)) {k : Key}, k ∉ kvs.map (·.1) → valV kvs k = none
  | [], _, _ => rfl
  | p :: r, k, h => by
    rw [List.map_cons, List.mem_cons, not_or] at h
    rw [valV_neg (fun q => h.1 q.symm)]
    exact val_no r h.2
theorem mergeK_id : ∀ (kvs acc : List (Key × V)), ((acc ++ kvs).map (·.1)).Nodup → mergeK acc kvs = acc ++ kvs
  | [], acc, _ => (List.append_nil _).symm
  | p :: r, acc, h => by
    have n : p.1 ∉ acc.map (·.1) := by
      rw [List.map_append, List.map_cons, List.nodup_append] at h
      exact fun q => h.2.2 _ q _ (List.mem_cons_self ..) rfl
    have z : putK acc p.1 p.2 = acc ++ [(p.1, p.2)] := putK_new _ (val_no acc n)
    show mergeK (putK acc p.1 p.2) r = _
    rw [z, mergeK_id r (acc ++ [(p.1, p.2)]) (by rw [List.append_assoc]; exact h), List.append_assoc]; rfl
def cpG (p : Addr × Row) : Str × List Str × Str := (p.2.z, p.2.ks, p.2.u)
theorem CpAt.up {H : Hp} {D p : Addr} {b : Bool} {r : Row} {o : HO} (h : CpAt H D p b r) : CpAt (upd H D o) D p b r :=
  ⟨by rw [upd_ne h.np]; exact h.pr, by rw [upd_ne h.nt]; exact h.tp, by rw [upd_ne h.na]; exact h.sq, h.b_, h.np, h.nt, h.na⟩
theorem CpAt.keep {H H' : Hp} {D p : Addr} {b : Bool} {r : Row} (h : CpAt H D p b r) (s : Same H H') : CpAt H' D p b r :=
  ⟨s _ _ h.pr, s _ _ h.tp, s _ _ h.sq, h.b_, h.np, h.nt, h.na⟩
theorem cp_step {HH H0 H' H4 : Hp} {D pa : Addr} {b : Bool} {ps : List (Addr × Row)} {r0 : Row} {L0 L : List (Str × List Str × Str)} (eD : H' D = some (.lst ((ps.map (·.1)).map V.ref))) (els : ps.map cpG = L0) (hL : L = L0 ++ [(r0.z, r0.ks, r0.u)]) (few : L0.length ≤ 100)
    (cok : ∀ p ∈ ps, CpAt H' D p.1 b p.2 ∧ HH p.2.a = none) (s' : Same H0 H') (s4 : Same H' H4) (nD : H0 D = none) (c4 : CpAt H4 D pa b r0) (fr : HH r0.a = none) :
    ∃ acc, H4 D = some (.lst acc) ∧ acc.length < sizeLine ∧ ∃ ps' : List (Addr × Row), upd H4 D (.lst (acc ++ [V.ref pa])) D = some (.lst ((ps'.map (·.1)).map V.ref)) ∧ ps'.map cpG = L ∧ (∀ x ∈ ps', CpAt (upd H4 D (.lst (acc ++ [V.ref pa]))) D x.1 b x.2 ∧ HH x.2.a = none) ∧ Same H0 (upd H4 D (.lst (acc ++ [V.ref pa]))) := by
  have l := congrArg List.length els
  rw [List.length_map] at l
  refine ⟨_, s4 _ _ eD, by rw [List.length_map, List.length_map, sizeLine_eq]; omega, ps ++ [(pa, r0)], by rw [upd_same, List.map_append, List.map_append]; rfl, by rw [List.map_append, els, hL]; rfl, fun q hq => ?_, fun q o e => by rw [upd_ne (ne_of_none e nD)]; exact s4 _ _ (s' _ _ e)⟩
  rcases List.mem_append.mp hq with hq | hq
  · exact ⟨((cok q hq).1.keep s4).up, (cok q hq).2⟩
  · obtain rfl := List.mem_singleton.mp hq
    exact ⟨c4.up, fr⟩
/-- what a copied row is, new from here -/
theorem cp_new {H' H4 : Hp} {D t p a : Addr} {b : Bool} {z u : Str} {ks : List Str} {oD : HO} (eD : H' D = some oD) (na : a ≠ D) (s2 : Same H' H4) (ea : H4 a = some (seqO b ks)) (nt : H4 t = none) (np : upd H4 t (.tup [.ref a, .str u]) p = none) :
    Same H' (upd (upd H4 t (.tup [.ref a, .str u])) p (.tup [.str z, .ref t])) ∧ CpAt (upd (upd H4 t (.tup [.ref a, .str u])) p (.tup [.str z, .ref t])) D p b ⟨z, t, a, b, ks, u⟩ := by
  have st := same_new (o := .tup [.ref a, .str u]) nt
  have sp_ := same_new (o := .tup [.str z, .ref t]) np
  exact ⟨(s2.trans st).trans sp_, upd_same, sp_ _ _ upd_same, sp_ _ _ (st _ _ ea), rfl, (ne_of_none (st _ _ (s2 _ _ eD)) np).symm, (ne_of_none (s2 _ _ eD) nt).symm, na⟩
/-- these rows are those that were told -/
structure RowsOf (d : Td) (rows : List Row) : Prop where
  pm : (rows.map (·.z)).Perm (d.rows.map (·.z))
  ex : ∀ r ∈ rows, ∃ q ∈ d.rows, q.z = r.z ∧ q.u = r.u ∧ r.ks.Perm q.ks
def SgIs (H : Hp) (sv : V) (o : Option (List Str)) (so : Option KL) : Prop := (sv = .non ∧ o = none ∧ so = none) ∨ ∃ l ks, sv = .ref l.a ∧ so = some l ∧ o = some ks ∧ H l.a = some (seqO l.b l.ks) ∧ l.ks.Perm ks
theorem WdL.perm {ks ls : List Str} {m : Nat} (h : WdL ks m) (p : ls.Perm ks) : WdL ls m := ⟨p.nodup_iff.mpr h.nd, by rw [p.length_eq]; exact h.le, fun k hk => h.wd k (p.mem_iff.mp hk)⟩
theorem right_of {K : PySem.W.Frag} {H : Hp} {dp : Addr} {rows : List Row} {lv : KL} {sv : V} {so : Option KL} {d : Td} (ok : TdR d) (ro : RowsOf d rows) (hd : H dp = some (.dK (dictOf rows))) (hrow : ∀ r ∈ rows, H r.t = some (.tup [.ref r.a, .str r.u]) ∧ H r.a = some (seqO r.b r.ks))
    (hl : H lv.a = some (seqO lv.b lv.ks)) (pl : lv.ks.Perm d.vo) (hs : SgIs H sv d.sg so) : Right K H (.ref dp) (.ref lv.a) (.int d.le) sv rows lv d.le so := by
  have len := ro.pm.length_eq
  rw [List.length_map, List.length_map] at len
  have wd : ∀ r ∈ rows, Wd r.z ∧ Wd r.u ∧ WdL r.ks 8 := fun r hr => by
    obtain ⟨q, hq, e1, e2, e3⟩ := ro.ex r hr
    obtain ⟨w1, w2, w3⟩ := ok.rw_ q hq
    exact ⟨e1 ▸ w1, e2 ▸ w2, w3.perm e3⟩
  refine ⟨⟨dp, rfl, hd, fun r hr => ?_⟩, by rw [len]; exact ok.n1, by rw [len]; exact ok.n3, ro.pm.nodup_iff.mpr ok.nd, List.all_eq_true.mpr fun r hr => ?_, ⟨rfl, kl_of hl (ok.vo.perm pl) (by decide), (ok.vo.perm pl).keys⟩, ⟨rfl, ok.le⟩, ?_⟩
  · obtain ⟨h1, h2⟩ := hrow r hr
    obtain ⟨w1, w2, w3⟩ := wd r hr
    have na : r.a ≠ dp := fun e => by rw [e, hd] at h2; cases hb : r.b <;> rw [hb] at h2 <;> cases h2
    refine ⟨h1, (fun e => by rw [e, hd] at h1; cases h1), na, seqO_is h2, fun H' s => seqO_ty (s _ _ h2 na), Nat.le_trans w3.le (by decide), fun k hk => (w3.wd k hk).ok.1, w1.ok.1, w2.ok.1⟩
  · obtain ⟨w1, w2, w3⟩ := wd r hr
    unfold rowB
    have k8 : keysB (r.ks.map V.str) 8 = true := w3.keys
    rw [w1.ok.2, w2.ok.2, k8]; rfl
  · rcases hs with ⟨rfl, _, rfl⟩ | ⟨l, ks, rfl, rfl, e, h, p⟩
    · exact .inl ⟨rfl, rfl⟩
    · exact .inr ⟨l, rfl, rfl, kl_of h ((ok.sg ks e).perm p) (by decide), ((ok.sg ks e).perm p).keys⟩
theorem ctis_of {H : Hp} {rows : List Row} {lv : KL} {sv : V} {so : Option KL} {d : Td} {c : Ct} (ro : RowsOf d rows) (pl : lv.ks.Perm d.vo) (hs : SgIs H sv d.sg so) (m : Made rows lv.ks d.le (sgOf lv so) c) : CtIs d c := by
  refine ⟨m.zs.trans (srtW_congr ro.pm), fun r hr => ?_, m.vo.trans (srtW_congr pl), m.ne, m.si.trans (srtW_congr ?_)⟩
  · obtain ⟨r2, h2, e1, e2, e3⟩ := m.us r hr
    obtain ⟨q, hq, f1, f2, f3⟩ := ro.ex r2 h2
    exact ⟨q, hq, f1.trans e1, f2.trans e2, e3.trans (srtW_congr f3)⟩
  · unfold sgOf sgT
    rcases hs with ⟨rfl, e, rfl⟩ | ⟨l, ks, rfl, rfl, e, h, p⟩
    · rw [e]; exact pl
    · rw [e]; exact p
theorem rows_of {d : Td} {rows : List Row} {ds : List Use} {f : List Str → List Str} (hf : ∀ ks, (f ks).Perm ks) (p : ds.Perm d.rows) (h : rows.map (fun r => (r.z, r.ks, r.u)) = ds.map fun r => (r.z, f r.ks, r.u)) : RowsOf d rows := by
  refine ⟨?_, fun r hr => ?_⟩
  · have e := congrArg (List.map Prod.fst) h
    rw [List.map_map, List.map_map] at e
    have e : rows.map (·.z) = ds.map (·.z) := e
    rw [e]; exact p.map _
  · have m : (r.z, r.ks, r.u) ∈ ds.map fun r => (r.z, f r.ks, r.u) := h ▸ List.mem_map_of_mem hr
    obtain ⟨q, hq, e⟩ := List.mem_map.mp m
    injection e with e1 e2
    injection e2 with e2 e3
    exact ⟨q, p.mem_iff.mp hq, e1, e3, e2 ▸ hf _⟩
theorem nodup_inr : ∀ {l : List Str}, l.Nodup → (l.map (Sum.inr : Str → Key)).Nodup
  | [], _ => List.nodup_nil
  | x :: r, h => by
    rw [List.nodup_cons] at h
    rw [List.map_cons, List.nodup_cons]
    refine ⟨fun q => ?_, nodup_inr h.2⟩
    obtain ⟨y, hy, e⟩ := List.mem_map.mp q
    exact h.1 (Sum.inr.inj e ▸ hy)
def cpKv (ps : List (Addr × Row)) : List (Key × V) := ps.map fun p => (Sum.inr p.2.z, V.ref p.2.t)
theorem paired_cp {K : PySem.W.Frag} {H : Hp} {D : Addr} {b : Bool} : ∀ {ps : List (Addr × Row)}, (∀ p ∈ ps, CpAt H D p.1 b p.2) → Paired (fun (p : Addr) (kv : Key × V) => SqT K H p [kV kv.1, kv.2]) (ps.map (·.1)) (cpKv ps)
  | [], _ => .nil
  | p :: r, h => .cons (SqT.of (h p (List.mem_cons_self ..)).pr) (paired_cp fun q hq => h q (List.mem_cons_of_mem _ hq))
theorem cp_merge {ps : List (Addr × Row)} (nd : (ps.map (·.2.z)).Nodup) : mergeK [] (cpKv ps) = dictOf (ps.map (·.2)) := by
  have e : ((([] : List (Key × V)) ++ cpKv ps).map (·.1)) = (ps.map (·.2.z)).map Sum.inr := by
    unfold cpKv
    rw [List.nil_append, List.map_map, List.map_map]; rfl
  rw [mergeK_id (cpKv ps) [] (by rw [e]; exact nodup_inr nd), List.nil_append]
  unfold cpKv dictOf
  rw [List.map_map]; rfl
theorem sg_is {H H' : Hp} {sv : V} {o : Option (List Str)} (h : SgAt H sv o) (s : Same H H') : ∃ so, SgIs H' sv o so := by
  cases o with
  | none => exact ⟨none, .inl ⟨h, rfl, rfl⟩⟩
  | some ks =>
    obtain ⟨l, e, h⟩ := h
    exact ⟨some ⟨l, true, ks⟩, .inr ⟨_, ks, e, rfl, rfl, s _ _ h, .refl _⟩⟩

/-- the words of a whole run -/
structure Ww (parts keys hands : List Str) : Prop where
  n : Wn parts keys hands
  pn : parts.Nodup
  k8 : keys.length ≤ 8
  h4 : hands.length ≤ 4
  pw : ∀ z ∈ parts, Wd z
  kw : ∀ z ∈ keys, Wd z
  hw : ∀ z ∈ hands, Wd z
theorem Sb.wdl {hs ks : List Str} {m : Nat} (h : Sb hs ks) (w : ∀ z ∈ hs, Wd z) (le : hs.length ≤ m) : WdL ks m := ⟨h.nd, Nat.le_trans h.len le, fun k hk => w k (h.sub k hk)⟩
theorem TdG.r {parts keys hands : List Str} {d : Td} (g : TdG parts keys hands d) (w : Ww parts keys hands) : TdR d := by
  have len : d.rows.length = parts.length := by rw [← g.zs, List.length_map]
  refine ⟨by rw [len]; exact w.n.p0, by rw [len]; exact w.n.p3, by rw [g.zs]; exact w.pn, fun r hr => ⟨w.pw _ (by rw [← g.zs]; exact List.mem_map_of_mem hr), w.kw _ (g.rows r hr).1, (g.rows r hr).2.wdl w.kw w.k8⟩, g.vo.wdl w.hw w.h4, g.le, fun ks e => (g.sg ks e).wdl w.hw w.h4⟩
def spCon (C : Addr) : Sp := fun vs H Q _ => ∃ q d, vs = [.ref q] ∧ TdAt H q d ∧ TdR d ∧ ∀ z c H', CAt (fun q => H q = none) C H' z c → CtOk c → CtIs d c → Same H H' → Q (.ref z) H'
def rowK (r : Use) (t : Addr) : Row := ⟨r.z, t, r.a, true, r.ks, r.u⟩
section
variable {P : Program} {w : World} {K : PySem.W.Frag} {mg : Str → Option Value} {base : Heap} {C CI : Addr}
abbrev s_law_contents : Stmt := top 32
theorem sc_law_contents : FnScope ["told", "rows", "vouch", "least", "signing", "part", "likes", "own"] ["told"] (defScope s_law_contents) := ⟨rfl, rfl, rfl, by decide +kernel, rfl, by decide +kernel, by decide +kernel⟩
theorem ok_con (D : DefK K mg "_law_contents" s_law_contents) (T : Txt K mg) (J : CTx K mg C) (M_Contents : MakN P w K mg base (L2.CX P w) 7 "Contents" C 2 ["needed", "signers"] (fun vs zs => vs ++ zs) (spCInit P w K C CI)) : Cal P w K mg base CX0 9 "_law_contents" (spCon C) := by
  refine D.cal sc_law_contents (fun _ _ _ _ _ _ us hl => match us, hl with | [_], _ => rfl) (fun vs H Q E h => ?_) fun f0 cdv A outer s H vs Q E hr h => ?_
  · obtain ⟨q, d, rfl, _⟩ := h; rfl
  · obtain ⟨q, d, rfl, td, ok, k⟩ := h
    refine ⟨_, (pss_cons (ps_asg (pv 0) (pg_tup rfl (pgs_cons (pg_name (i := 1) sc_law_contents.nd rfl (Or.inl rfl)) (pgs_cons (pg_name (i := 2) sc_law_contents.nd rfl (Or.inl rfl)) (pgs_cons (pg_name (i := 3) sc_law_contents.nd rfl (Or.inl rfl)) (pgs_cons (pg_name (i := 4) sc_law_contents.nd rfl (Or.inl rfl)) pgs_nil))))))
      (pss_one (ps_ret (pe_mkNS M_Contents takes0 hr (by decide) rfl (pa_cons (pe_callTy (call_dictP rfl) (by rfl) T.b_dict (by decide +kernel) (pa_cons (pe_lc (own := [("part", 5), ("likes", 6), ("own", 7)]) (g := gTup K 3 (gCons (gName 5) (gCons (gName 6) (gCons (gName 7) gNil)))) (by rfl) sc_law_contents.nd (pi_list (pv 1)) (blkOk_by (own := [("part", 5), ("likes", 6), ("own", 7)]) (N := ["told", "rows", "vouch", "least", "signing", "part", "likes", "own"]) (sc := defScope s_law_contents) (by decide +kernel)) (fun _ _ _ _ _ => pg_tup rfl (pgs_cons (pg_name (i := 5) sc_law_contents.nd rfl (Or.inl rfl)) (pgs_cons (pg_name (i := 6) sc_law_contents.nd rfl (Or.inl rfl)) (pgs_cons (pg_name (i := 7) sc_law_contents.nd rfl (Or.inl rfl)) pgs_nil)))) (fun _ _ _ _ _ => pts_nil) (fun _ _ _ _ _ => (pe_tup (pa_cons (pv 5) (pa_cons (pe_tup (pa_cons (pv 6) (pa_cons (pv 7) pa_nil))) pa_nil))))) pa_nil)) (pa_cons (pv 2) pa_nil)) (pk_cons (pv 3) (pk_cons (pv 4) pk_nil)))))), ?_⟩
    obtain ⟨⟨lr, lv, sv, e1, e2, e3, e4⟩, rs⟩ := id td
    refine ⟨_, rfl, q, _, rfl, SqT.of e1, rfl, _, _, rfl, _, _, rfl, _, _, rfl, _, _, rfl, rfl, ?_⟩
    refine ⟨_, rfl, lr, rfl, ⟨_, SqL.of e2⟩, fun D nD => ?_⟩
    have few := ok.n3
    refine lc_list (K := K) (a := lr) (xs := (d.rows.map (·.t)).map V.ref) (fun i H' => ∃ ps : List (Addr × Row), H' D = some (.lst ((ps.map (·.1)).map V.ref)) ∧ ps.map cpG = (d.rows.take i).map tri ∧ (∀ p ∈ ps, CpAt H' D p.1 true p.2) ∧ Same H H') ⟨[], upd_same, rfl, (fun _ h => nomatch h), same_new nD⟩ (fun i H' _ ⟨_, _, _, _, s⟩ => SqL.of (s _ _ e2)) ?_ ?_
    · rintro i x H' hx ⟨ps, eD, eP, cP, sP⟩
      obtain ⟨r, er, rfl⟩ : ∃ r, d.rows[i]? = some r ∧ x = .ref r.t := by
        rw [List.getElem?_map, List.getElem?_map] at hx
        cases c : d.rows[i]? with
        | none => rw [c] at hx; cases hx
        | some r => rw [c] at hx; exact ⟨r, rfl, (Option.some.inj hx).symm⟩
      have R := rs r (List.mem_of_getElem? er)
      have tk : d.rows.take (i + 1) = d.rows.take i ++ [r] := by rw [List.take_succ, er]; rfl
      refine ⟨r.t, _, rfl, SqT.of (sP _ _ R.tp), rfl, _, _, rfl, _, _, rfl, _, _, rfl, rfl, rfl, yes_if ?_⟩
      refine ⟨_, rfl, _, rfl, _, rfl, by show 2 ≤ sizeLine; decide, fun t nt => ⟨by show 2 ≤ sizeLine; decide, fun p np => ?_⟩⟩
      obtain ⟨n1, n2⟩ := cp_new eD (ne_of_none R.ls nD) (.refl H') (show H' r.a = some (seqO true r.ks) from sP _ _ R.ls) nt np
      generalize upd (upd H' t (.tup [.ref r.a, .str r.u])) p (.tup [.str r.z, .ref t]) = H4 at *
      have pl : ps.length = i := by
        have z1 := congrArg List.length eP
        have lt : i < d.rows.length := (List.getElem?_eq_some_iff.mp er).1
        rw [List.length_map, List.length_map, List.length_take] at z1
        omega
      have lt : i < d.rows.length := (List.getElem?_eq_some_iff.mp er).1
      refine ⟨_, n1 _ _ eD, by rw [List.length_map, List.length_map, pl, sizeLine_eq]; omega, ps ++ [(p, ⟨r.z, t, r.a, true, r.ks, r.u⟩)], by rw [upd_same, List.map_append, List.map_append]; rfl, by rw [List.map_append, eP, tk, List.map_append]; rfl, fun q hq => ?_, fun q o e => by rw [upd_ne (ne_of_none e nD)]; exact n1 _ _ (sP _ _ e)⟩
      rcases List.mem_append.mp hq with hq | hq
      · exact ((cP q hq).keep n1).up
      · obtain rfl := List.mem_singleton.mp hq
        exact n2.up
    · rintro H' ⟨ps, eD, eP, cP, sP⟩
      rw [show ((d.rows.map (·.t)).map V.ref).length = d.rows.length by rw [List.length_map, List.length_map], List.take_length] at eP
      have zs : (ps.map (·.2)).map (·.z) = d.rows.map (·.z) := by
        have z1 := congrArg (List.map (·.1)) eP
        rw [List.map_map, List.map_map] at z1
        rw [List.map_map]; exact z1
      have nd : (ps.map (·.2.z)).Nodup := by
        have z2 : ps.map (·.2.z) = d.rows.map (·.z) := by rw [← zs, List.map_map]; rfl
        rw [z2]; exact ok.nd
      refine ⟨D, ps.map (·.1), cpKv ps, rfl, SqL.of eD, paired_cp cP, fun dd ndd => ?_⟩
      rw [cp_merge nd]
      have g1 := same_new (o := .dK (dictOf (ps.map (·.2)))) ndd
      have ed : upd H' dd (.dK (dictOf (ps.map (·.2)))) dd = some (.dK (dictOf (ps.map (·.2)))) := upd_same
      have sF := sP.trans g1
      have cF := fun p hp => (cP p hp).keep g1
      generalize upd H' dd (.dK (dictOf (ps.map (·.2)))) = HF at *
      obtain ⟨so, hs⟩ := sg_is e4 sF
      have ro : RowsOf d (ps.map (·.2)) := by
        refine ⟨by rw [zs], fun x hx => ?_⟩
        obtain ⟨pp, hp, rfl⟩ := List.mem_map.mp hx
        have z1 : cpG pp ∈ d.rows.map tri := eP ▸ List.mem_map_of_mem hp
        obtain ⟨q0, hq, e⟩ := List.mem_map.mp z1
        have a1 : q0.z = pp.2.z := congrArg (·.1) e
        have a2 : q0.ks = pp.2.ks := congrArg (·.2.1) e
        have a3 : q0.u = pp.2.u := congrArg (·.2.2) e
        exact ⟨q0, hq, a1, a3, by rw [a2]⟩
      refine ⟨_, rfl, _, rfl, _, rfl, rfl, rfl, fun z dz nz ndz nez => ?_⟩
      have RR := right_of (K := K) (H := HF) (lv := ⟨lv, true, d.vo⟩) ok ro ed (fun x hx => by
        obtain ⟨pp, hp, rfl⟩ := List.mem_map.mp hx
        have C0 := cF pp hp
        exact ⟨C0.tp, by rw [C0.b_]; exact C0.sq⟩) (show HF lv = some (seqO true d.vo) from sF _ _ e3) (List.Perm.refl _) hs
      refine ⟨z, dz, _, _, _, _, HF, rfl, upd_same, same_new' (same_new ndz) (by rw [upd_ne (Ne.symm nez)]; exact nz), nz, .inl ⟨_, _, _, _, RR, fun H2 c ca m ok2 s2 => ⟨rfl, k z c H2 (ca.wider fun q hq => sF.free hq) ok2 (ctis_of ro (List.Perm.refl _) hs m) (sF.trans s2)⟩⟩⟩
end

end K08

namespace K08
open PySem PySem.Spec PyProof.Rows L2 Jg
local macro_rules | `(tactic| walk_at "rd1") => `(tactic| (first
  | refine ⟨_, rfl, ?_⟩
  | refine ⟨_, _, rfl, rfl, ?_⟩
  | refine ⟨_, _, rfl, ?_⟩
  | refine ⟨rfl, ?_⟩
  | (refine ⟨show (0 : Int) < _ by omega, ?_⟩)
  | (refine ⟨Or.inl ⟨by omega, by omega⟩, ?_⟩)
  | (refine ⟨Or.inr ⟨by omega, by omega⟩, ?_⟩)
  | (refine ⟨(⟨by decide, by decide, by decide⟩ : CPow _ _), ?_⟩)
  | refine Or.inl ⟨_, rfl, ?_⟩
  | refine Or.inr ⟨_, rfl, ?_⟩
  | fail "rd"))
local macro_rules | `(tactic| walk_at "rd") => `(tactic| repeat' walk_at "rd1")


/-! ### whether what is told takes what is told -/
def vouB (d e : Td) : Bool := decide (d.le ≤ (((sgT e).filter fun k => decide (k ∈ d.vo)).length : Int))
theorem vou_takes {d e : Td} {c f : Ct} (h1 : CtIs d c) (h2 : CtIs e f) : takesB c f = vouB d e := by
  unfold takesB vouB
  rw [h1.ne, h2.si, h1.vo]
  have p : ((srtW (sgT e)).filter fun k => decide (k ∈ srtW d.vo)).length = ((sgT e).filter fun k => decide (k ∈ d.vo)).length := by
    have e1 : (fun k => decide (k ∈ srtW d.vo)) = fun k => decide (k ∈ d.vo) := funext fun k => decide_eq_decide.mpr srtW_mem
    rw [e1]
    exact ((srtW_perm (sgT e)).filter _).length_eq
  rw [p]
def spVou (K : PySem.W.Frag) : Sp := fun vs H Q _ => ∃ q1 q2 d e, vs = [.ref q1, .ref q2] ∧ TdAt H q1 d ∧ TdAt H q2 e ∧ (sgT e).length ≤ 500 ∧ ∀ H', Same H H' → Q (.bl (vouB d e)) H'
/-- the signers, as they stand -/
theorem sg_list {H : Hp} {lv : Addr} {sv : V} {d : Td} (e3 : H lv = some (.lst (d.vo.map V.str))) (e4 : SgAt H sv d.sg) : (sv = .non ∧ H lv = some (.lst ((sgT d).map V.str))) ∨ ∃ l, sv = .ref l ∧ H l = some (.lst ((sgT d).map V.str)) := by
  unfold sgT
  cases h : d.sg with
  | none => rw [h] at e4; exact .inl ⟨e4, e3⟩
  | some ks =>
    rw [h] at e4
    obtain ⟨l, a, b⟩ := e4
    exact .inr ⟨l, a, b⟩
section
variable {P : Program} {w : World} {K : PySem.W.Frag} {mg : Str → Option Value} {base : Heap}
abbrev s_law_vouched : Stmt := top 33
theorem sc_law_vouched : FnScope ["early", "later", "hands", "key"] ["early", "later"] (defScope s_law_vouched) := ⟨rfl, rfl, rfl, by decide +kernel, rfl, by decide +kernel, by decide +kernel⟩
theorem ok_vou (D : DefK K mg "_law_vouched" s_law_vouched) (T : Txt K mg) : Cal P w K mg base CX0 1 "_law_vouched" (spVou K) := by
  refine D.cal sc_law_vouched (fun _ _ _ _ _ _ us hl => match us, hl with | [_, _], _ => rfl) (fun vs H Q E h => ?_) fun f0 cdv A outer s H vs Q E hr h => ?_
  · obtain ⟨q1, q2, d, e, rfl, _⟩ := h; rfl
  · obtain ⟨q1, q2, d, e, rfl, t1, t2, few, k⟩ := h
    refine ⟨_, (C8.pss_cut (ps_set (i := 2) sc_law_vouched.nd rfl (Or.inl rfl) (pe_ifExp (pt_cmpR op_isN (pe_ix (r := rIxT K) ix_tup (pv 1) pe_int (fun _ _ => rfl)) pe_non (nomark _)) (pe_ix (r := rIxT K) ix_tup (pv 1) pe_int (fun _ _ => rfl)) (pe_ix (r := rIxT K) ix_tup (pv 1) pe_int (fun _ _ => rfl))))
      (pss_one (ps_ret (pe_cmpR op_ge (pe_callB call_len_seq (by rfl) T.b_len (by decide +kernel) (pa_cons (pe_lc (own := [("key", 3)]) (g := gName 3) (by rfl) sc_law_vouched.nd (pi_list (pv 2)) (blkOk_by (own := [("key", 3)]) (N := ["early", "later", "hands", "key"]) (sc := defScope s_law_vouched) (by decide +kernel)) (fun _ _ _ _ _ => pg_name (i := 3) sc_law_vouched.nd rfl (Or.inl rfl)) (fun _ _ _ _ _ => (pts_one (pt_cmpR (r := rIn K false) op_in_seq (pv 3) (pe_ix (r := rIxT K) ix_tup (pv 0) pe_int (fun _ _ => rfl)) rfl))) (fun _ _ _ _ _ => (pv 3))) pa_nil)) (pe_ix (r := rIxT K) ix_tup (pv 0) pe_int (fun _ _ => rfl)) (nomark _))))), ?_⟩
    obtain ⟨⟨lr, lv, sv, e1, e2, e3, e4⟩, rs⟩ := id t1
    obtain ⟨⟨lr', lv', sv', f1, f2, f3, f4⟩, rs'⟩ := id t2
    refine ⟨fun σ' H' => ∃ l, σ' = [some (.ref q1), some (.ref q2), some (.ref l), none] ∧ H' = H ∧ H l = some (.lst ((sgT e).map V.str)), ?_, ?_⟩
    · rcases sg_list f3 f4 with ⟨rfl, el⟩ | ⟨l, rfl, el⟩
      · exact ⟨_, rfl, q2, _, 3, _, rfl, rfl, SqT.of f1, atI_nat (j := 3) rfl, rfl, _, rfl, iteTe (decide_eq_true rfl) ⟨_, rfl, q2, _, 1, _, rfl, rfl, SqT.of f1, atI_nat (j := 1) rfl, lv', rfl, rfl, el⟩⟩
      · exact ⟨_, rfl, q2, _, 3, _, rfl, rfl, SqT.of f1, atI_nat (j := 3) rfl, rfl, _, rfl, iteFe (decide_eq_false (fun z => nomatch z)) ⟨_, rfl, q2, _, 3, _, rfl, rfl, SqT.of f1, atI_nat (j := 3) rfl, l, rfl, rfl, el⟩⟩
    · rintro σ' H' ⟨l, rfl, rfl, el⟩
      refine ⟨_, rfl, l, rfl, ⟨_, SqL.of el⟩, fun D nD => ?_⟩
      have sq : ∀ {a : Addr} {xs : List V} {o : HO}, SqL K H' a xs → SqL K (upd H' D o) a xs := fun h => (same_new nD).seq h
      refine lc_list (K := K) (a := l) (xs := (sgT e).map V.str) (fun i H2 => H2 = upd H' D (.lst ((((sgT e).take i).filter fun k => decide (k ∈ d.vo)).map V.str))) rfl (fun _ H2 _ z => by rw [z]; exact sq (SqL.of el)) ?_ ?_
      · rintro i x H2 hx rfl
        obtain ⟨z, hz, rfl⟩ := str_at hx
        refine ⟨rfl, ?_⟩
        refine ⟨_, rfl, _, rfl, q1, _, 1, _, rfl, rfl, SqT.of (same_new nD _ _ e1), atI_nat (j := 1) rfl, lv, _, rfl, .inl (sq (SqL.of e3)), rfl, flat_strs, _, rfl, ?_⟩
        show if inV (V.str z) (d.vo.map V.str) = true then _ else _
        rw [inV_strs]
        by_cases cc : z ∈ d.vo
        · rw [decide_eq_true cc]
          refine iteT ⟨_, rfl, _, upd_same, fil_few _ few, ?_⟩
          rw [upd_upd, fil_take hz, decide_eq_true cc, List.map_append]; rfl
        · rw [decide_eq_false cc]
          refine iteF ?_
          rw [fil_take hz, decide_eq_false cc]
          show _ = upd H' D (.lst (((((sgT e).take i).filter fun k => decide (k ∈ d.vo)) ++ []).map V.str))
          rw [List.append_nil]
      · intro H2 eH
        rw [List.length_map, List.take_length] at eH
        subst eH
        have q := k _ (same_new (o := .lst (((sgT e).filter fun k => decide (k ∈ d.vo)).map V.str)) nD)
        unfold vouB at q
        rw [← List.length_map (as := (sgT e).filter fun k => decide (k ∈ d.vo)) V.str] at q
        exact ⟨D, _, rfl, .inl (SqL.of upd_same), _, rfl, q1, _, 2, _, rfl, rfl, SqT.of (same_new nD _ _ e1), atI_nat (j := 2) rfl, _, _, rfl, rfl, q⟩
end

end K08

namespace K08
open PySem PySem.Spec PyProof.Rows L2 Jg
local macro_rules | `(tactic| walk_at "rd1") => `(tactic| (first
  | refine ⟨_, rfl, ?_⟩
  | refine ⟨_, _, rfl, rfl, ?_⟩
  | refine ⟨_, _, rfl, ?_⟩
  | refine ⟨rfl, ?_⟩
  | (refine ⟨show (0 : Int) < _ by omega, ?_⟩)
  | (refine ⟨Or.inl ⟨by omega, by omega⟩, ?_⟩)
  | (refine ⟨Or.inr ⟨by omega, by omega⟩, ?_⟩)
  | (refine ⟨(⟨by decide, by decide, by decide⟩ : CPow _ _), ?_⟩)
  | refine Or.inl ⟨_, rfl, ?_⟩
  | refine Or.inr ⟨_, rfl, ?_⟩
  | fail "rd"))
local macro_rules | `(tactic| walk_at "rd") => `(tactic| repeat' walk_at "rd1")


/-! ### what is told, with one role's use -/
def setF (z : Str) (ks : List Str) (u : Str) (r : Use) : Str × List Str × Str := if r.z = z then (z, ks, u) else tri r
def spWith : Sp := fun vs H Q _ => ∃ q z la u d ks, vs = [.ref q, .str z, .ref la, .str u] ∧ TdAt H q d ∧ H la = some (.lst (ks.map V.str)) ∧ d.rows.length ≤ 100 ∧
  ∀ q' d' H', H q' = none → Same H H' → TdAt H' q' d' → d'.rows.map tri = d.rows.map (setF z ks u) → d'.vo = d.vo → d'.le = d.le → d'.sg = some (sgT d) → Q (.ref q') H'
theorem row_step {H H' : Hp} {D t a : Addr} {rows L : List Use} {z u : Str} {ks : List Str} {F : Use → Str × List Str × Str} {r : Use} (eD : H' D = some (.lst ((rows.map (·.t)).map V.ref))) (ok : ∀ r ∈ rows, TRow H' r ∧ r.t ≠ D ∧ r.a ≠ D) (sP : Same H H') (nD : H D = none) (nt : H' t = none)
    (ea : H' a = some (.lst (ks.map V.str))) (na : a ≠ D) (eR : rows.map tri = L.map F) (eF : F r = (z, ks, u)) (few : rows.length ≤ 100) :
    ∃ acc, upd H' t (.tup [.str z, .ref a, .str u]) D = some (.lst acc) ∧ acc.length < sizeLine ∧ ∃ rows2 : List Use, upd (upd H' t (.tup [.str z, .ref a, .str u])) D (.lst (acc ++ [.ref t])) D = some (.lst ((rows2.map (·.t)).map V.ref)) ∧ rows2.map tri = (L ++ [r]).map F ∧
      (∀ r ∈ rows2, TRow (upd (upd H' t (.tup [.str z, .ref a, .str u])) D (.lst (acc ++ [.ref t]))) r ∧ r.t ≠ D ∧ r.a ≠ D) ∧ Same H (upd (upd H' t (.tup [.str z, .ref a, .str u])) D (.lst (acc ++ [.ref t]))) := by
  have g1 := same_new (o := .tup [.str z, .ref a, .str u]) nt
  have td : t ≠ D := (ne_of_none eD nt).symm
  refine ⟨_, g1 _ _ eD, by rw [List.length_map, List.length_map, sizeLine_eq]; omega, rows ++ [⟨z, t, a, ks, u⟩], by rw [upd_same, List.map_append, List.map_append]; rfl, by rw [List.map_append, eR, List.map_append, List.map_cons, List.map_cons, eF]; rfl, fun q hq => ?_, fun q o e => by rw [upd_ne (ne_of_none e nD)]; exact g1 _ _ (sP _ _ e)⟩
  rcases List.mem_append.mp hq with hq | hq
  · obtain ⟨R2, m1, m2⟩ := ok q hq
    exact ⟨⟨by rw [upd_ne m1]; exact g1 _ _ R2.tp, by rw [upd_ne m2]; exact g1 _ _ R2.ls⟩, m1, m2⟩
  · obtain rfl := List.mem_singleton.mp hq
    exact ⟨⟨by rw [upd_ne td]; exact upd_same, by rw [upd_ne na]; exact g1 _ _ ea⟩, td, na⟩
section
variable {P : Program} {w : World} {K : PySem.W.Frag} {mg : Str → Option Value} {base : Heap}
abbrev s_law_with : Stmt := top 36
theorem sc_law_with : FnScope ["told", "part", "likes", "own", "rows", "one", "old", "mine"] ["told", "part", "likes", "own"] (defScope s_law_with) := ⟨rfl, rfl, rfl, by decide +kernel, rfl, by decide +kernel, by decide +kernel⟩
theorem ok_with (D : DefK K mg "_law_with" s_law_with) : Cal P w K mg base CX0 1 "_law_with" spWith := by
  refine D.cal sc_law_with (fun _ _ _ _ _ _ us hl => match us, hl with | [_, _, _, _], _ => rfl) (fun vs H Q E h => ?_) fun f0 cdv A outer s H vs Q E hr h => ?_
  · obtain ⟨q, z, la, u, d, ks, rfl, _⟩ := h; rfl
  · obtain ⟨q, z, la, u, d, ks, rfl, td, ela, few, k⟩ := h
    refine ⟨_, (pss_cons (ps_setLc (i := 4) (own := [("one", 5), ("old", 6), ("mine", 7)]) (g := gTup K 3 (gCons (gName 5) (gCons (gName 6) (gCons (gName 7) gNil)))) (by rfl) sc_law_with.nd rfl rfl (sw_true rfl rfl rfl (by decide +kernel)) (pi_list (pe_ix (r := rIxT K) ix_tup (pv 0) pe_int (fun _ _ => rfl))) (blkOk_by (own := [("one", 5), ("old", 6), ("mine", 7)]) (N := ["told", "part", "likes", "own", "rows", "one", "old", "mine"]) (sc := defScope s_law_with) (by decide +kernel)) (fun _ _ _ _ _ => pg_tup rfl (pgs_cons (pg_name (i := 5) sc_law_with.nd rfl (Or.inl rfl)) (pgs_cons (pg_name (i := 6) sc_law_with.nd rfl (Or.inl rfl)) (pgs_cons (pg_name (i := 7) sc_law_with.nd rfl (Or.inl rfl)) pgs_nil)))) (fun _ _ _ _ _ => pts_nil) (fun _ _ _ _ _ => (pe_ifExp (pt_cmpR op_eq (pv 5) (pv 1) (nomark _)) (pe_tup (pa_cons (pv 5) (pa_cons (pv 2) (pa_cons (pv 3) pa_nil)))) (pe_tup (pa_cons (pv 5) (pa_cons (pv 6) (pa_cons (pv 7) pa_nil)))))))
      (pss_one (ps_ret (pe_tup (pa_cons (pv 4) (pa_cons (pe_ix (r := rIxT K) ix_tup (pv 0) pe_int (fun _ _ => rfl)) (pa_cons (pe_ix (r := rIxT K) ix_tup (pv 0) pe_int (fun _ _ => rfl)) (pa_cons (pe_ifExp (pt_cmpR op_isN (pe_ix (r := rIxT K) ix_tup (pv 0) pe_int (fun _ _ => rfl)) pe_non (nomark _)) (pe_ix (r := rIxT K) ix_tup (pv 0) pe_int (fun _ _ => rfl)) (pe_ix (r := rIxT K) ix_tup (pv 0) pe_int (fun _ _ => rfl))) pa_nil)))))))), ?_⟩
    obtain ⟨⟨lr, lv, sv, e1, e2, e3, e4⟩, rs⟩ := id td
    refine ⟨_, rfl, q, _, 0, _, rfl, rfl, SqT.of e1, atI_nat (j := 0) rfl, lr, rfl, ⟨_, SqL.of e2⟩, fun D nD => ?_⟩
    refine lc_list (K := K) (a := lr) (xs := (d.rows.map (·.t)).map V.ref) (fun i H' => ∃ rows : List Use, H' D = some (.lst ((rows.map (·.t)).map V.ref)) ∧ rows.map tri = (d.rows.take i).map (setF z ks u) ∧ (∀ r ∈ rows, TRow H' r ∧ r.t ≠ D ∧ r.a ≠ D) ∧ Same H H') ⟨[], upd_same, rfl, (fun _ h => nomatch h), same_new nD⟩ (fun i H' _ ⟨_, _, _, _, s⟩ => SqL.of (s _ _ e2)) ?_ ?_
    · rintro i x H' hx ⟨rows, eD, eR, ok, sP⟩
      obtain ⟨r, er, rfl⟩ : ∃ r, d.rows[i]? = some r ∧ x = .ref r.t := by
        rw [List.getElem?_map, List.getElem?_map] at hx
        cases c : d.rows[i]? with
        | none => rw [c] at hx; cases hx
        | some r => rw [c] at hx; exact ⟨r, rfl, (Option.some.inj hx).symm⟩
      have R := rs r (List.mem_of_getElem? er)
      have tk : d.rows.take (i + 1) = d.rows.take i ++ [r] := by rw [List.take_succ, er]; rfl
      have lt : i < d.rows.length := (List.getElem?_eq_some_iff.mp er).1
      have rl : rows.length = i := by
        have z1 := congrArg List.length eR
        rw [List.length_map, List.length_map, List.length_take] at z1
        omega
      refine ⟨r.t, _, rfl, SqT.of (sP _ _ R.tp), rfl, _, _, rfl, _, _, rfl, _, _, rfl, rfl, rfl, yes_if ?_⟩
      rw [tk]
      refine ⟨_, rfl, _, rfl, rfl, _, rfl, ?_⟩
      by_cases c : r.z = z
      · refine iteTe (decide_eq_true (by rw [c])) ⟨_, rfl, _, rfl, _, rfl, by show 3 ≤ sizeLine; decide, fun t nt => ?_⟩
        exact row_step eD ok sP nD nt (sP _ _ ela) (ne_of_none ela nD) eR (by unfold setF; rw [if_pos c, c]) (by omega)
      · refine iteFe (decide_eq_false (fun e => c (V.str.inj e))) ⟨_, rfl, _, rfl, _, rfl, by show 3 ≤ sizeLine; decide, fun t nt => ?_⟩
        exact row_step eD ok sP nD nt (sP _ _ R.ls) (ne_of_none R.ls nD) eR (by unfold setF; rw [if_neg c]; rfl) (by omega)
    · rintro H' ⟨rows, eD, eR, ok, sP⟩
      rw [show ((d.rows.map (·.t)).map V.ref).length = d.rows.length by rw [List.length_map, List.length_map], List.take_length] at eR
      have f1 := sP _ _ e1
      refine ⟨_, rfl, _, rfl, q, _, 1, _, rfl, rfl, SqT.of f1, atI_nat (j := 1) rfl, _, rfl, q, _, 2, _, rfl, rfl, SqT.of f1, atI_nat (j := 2) rfl, ?_⟩
      have fin : ∀ l, H l = some (.lst ((sgT d).map V.str)) → ∀ q', H' q' = none → Q (.ref q') (upd H' q' (.tup [.ref D, .ref lv, .int d.le, .ref l])) := fun l el q' nq => by
        have g1 := same_new (o := .tup [.ref D, .ref lv, .int d.le, .ref l]) nq
        exact k q' ⟨rows, d.vo, d.le, some (sgT d)⟩ _ (sP.free nq) (sP.trans g1) ⟨⟨D, lv, .ref l, upd_same, g1 _ _ eD, g1 _ _ (sP _ _ e3), ⟨l, rfl, g1 _ _ (sP _ _ el)⟩⟩, fun r hr => ⟨g1 _ _ (ok r hr).1.tp, g1 _ _ (ok r hr).1.ls⟩⟩ eR rfl rfl rfl
      rcases sg_list e3 e4 with ⟨rfl, el⟩ | ⟨l, rfl, el⟩
      · exact ⟨_, rfl, q, _, 3, _, rfl, rfl, SqT.of f1, atI_nat (j := 3) rfl, rfl, _, rfl, iteTe (decide_eq_true rfl) ⟨_, rfl, q, _, 1, _, rfl, rfl, SqT.of f1, atI_nat (j := 1) rfl, by show 4 ≤ sizeLine; decide, fin lv el⟩⟩
      · exact ⟨_, rfl, q, _, 3, _, rfl, rfl, SqT.of f1, atI_nat (j := 3) rfl, rfl, _, rfl, iteFe (decide_eq_false (fun z => nomatch z)) ⟨_, rfl, q, _, 3, _, rfl, rfl, SqT.of f1, atI_nat (j := 3) rfl, by show 4 ≤ sizeLine; decide, fin l el⟩⟩
end

end K08

namespace K08
open PySem PySem.Spec PyProof.Rows L2 Jg
local macro_rules | `(tactic| walk_at "rd1") => `(tactic| (first
  | refine ⟨_, rfl, ?_⟩
  | refine ⟨_, _, rfl, rfl, ?_⟩
  | refine ⟨_, _, rfl, ?_⟩
  | refine ⟨rfl, ?_⟩
  | (refine ⟨show (0 : Int) < _ by omega, ?_⟩)
  | (refine ⟨Or.inl ⟨by omega, by omega⟩, ?_⟩)
  | (refine ⟨Or.inr ⟨by omega, by omega⟩, ?_⟩)
  | (refine ⟨(⟨by decide, by decide, by decide⟩ : CPow _ _), ?_⟩)
  | refine Or.inl ⟨_, rfl, ?_⟩
  | refine Or.inr ⟨_, rfl, ?_⟩
  | fail "rd"))
local macro_rules | `(tactic| walk_at "rd") => `(tactic| repeat' walk_at "rd1")


/-! ### what is told, without lost keys -/
theorem less_lc {K : PySem.W.Frag} {x0 x2 x3 x4 x5 x6 x7 : Option V} {H1 : Hp} {D a b : Addr} {ks ls : List Str} {Qd : Hp → Prop} (ha : H1 a = some (.lst (ks.map V.str))) (hb : H1 b = some (.lst (ls.map V.str))) (nD : H1 D = none) (few : ks.length ≤ 500) (k : Qd (upd H1 D (.lst ((lessK ls ks).map V.str)))) :
    LcAsk (Itl K a) (gName 7) (tTest (tOp (rIn K true) (tVar 7) (tVar 1))) (tVar 7) [7] [x0, some (.ref b), x2, x3, x4, x5, x6, x7] H1 D Qd := by
  refine lc_list (K := K) (a := a) (xs := ks.map V.str) (fun i H' => H' = upd H1 D (.lst ((lessK ls (ks.take i)).map V.str))) rfl (fun _ H' _ z => by rw [z]; exact SqL.of (same_new nD _ _ ha)) ?_ ?_
  · rintro i x H' hx rfl
    obtain ⟨z, hz, rfl⟩ := str_at hx
    refine ⟨rfl, ?_⟩
    refine ⟨_, rfl, _, rfl, b, _, rfl, .inl (SqL.of (same_new nD _ _ hb)), rfl, flat_strs, _, rfl, ?_⟩
    show if (!inV (V.str z) (ls.map V.str)) = true then _ else _
    rw [inV_strs]
    unfold lessK
    by_cases c : z ∈ ls
    · rw [decide_eq_true c]
      refine iteF ?_
      rw [fil_take hz, decide_eq_true c]
      show _ = upd H1 D (.lst ((((ks.take i).filter fun k => !decide (k ∈ ls)) ++ []).map V.str))
      rw [List.append_nil]
    · rw [decide_eq_false c]
      refine iteT ⟨_, rfl, _, upd_same, fil_few _ few, ?_⟩
      rw [upd_upd, fil_take hz, decide_eq_false c, List.map_append]; rfl
  · intro H' e
    rw [List.length_map, List.take_length] at e
    rw [e]
    exact k
def spLess : Sp := fun vs H Q _ => ∃ q l d ls, vs = [.ref q, .ref l] ∧ TdAt H q d ∧ H l = some (.lst (ls.map V.str)) ∧ d.rows.length ≤ 100 ∧ (∀ r ∈ d.rows, r.ks.length ≤ 100) ∧ d.vo.length ≤ 100 ∧ (sgT d).length ≤ 100 ∧
  ∀ q' d' H', H q' = none → Same H H' → TdAt H' q' d' → d'.rows.map tri = d.rows.map (fun r => (r.z, lessK ls r.ks, r.u)) → d'.vo = lessK ls d.vo → d'.le = d.le → d'.sg = some (lessK ls (sgT d)) → Q (.ref q') H'
section
variable {P : Program} {w : World} {K : PySem.W.Frag} {mg : Str → Option Value} {base : Heap}
abbrev s_law_less : Stmt := top 37
theorem sc_law_less : FnScope ["told", "lost", "rows", "hands", "part", "likes", "own", "key"] ["told", "lost"] (defScope s_law_less) := ⟨rfl, rfl, rfl, by decide +kernel, rfl, by decide +kernel, by decide +kernel⟩
theorem ok_less (D : DefK K mg "_law_less" s_law_less) : Cal P w K mg base CX0 1 "_law_less" spLess := by
  refine D.cal sc_law_less (fun _ _ _ _ _ _ us hl => match us, hl with | [_, _], _ => rfl) (fun vs H Q E h => ?_) fun f0 cdv A outer s H vs Q E hr h => ?_
  · obtain ⟨q, l, d, ls, rfl, _⟩ := h; rfl
  · obtain ⟨q, l, d, ls, rfl, td, el, few, fk, fv, fs, k⟩ := h
    refine ⟨_, (pss_cons (ps_setLc (i := 2) (own := [("part", 4), ("likes", 5), ("own", 6)]) (g := gTup K 3 (gCons (gName 4) (gCons (gName 5) (gCons (gName 6) gNil)))) (by rfl) sc_law_less.nd rfl rfl (sw_true rfl rfl rfl (by decide +kernel)) (pi_list (pe_ix (r := rIxT K) ix_tup (pv 0) pe_int (fun _ _ => rfl))) (blkOk_by (own := [("part", 4), ("likes", 5), ("own", 6)]) (N := ["told", "lost", "rows", "hands", "part", "likes", "own", "key"]) (sc := defScope s_law_less) (by decide +kernel)) (fun _ _ _ _ _ => pg_tup rfl (pgs_cons (pg_name (i := 4) sc_law_less.nd rfl (Or.inl rfl)) (pgs_cons (pg_name (i := 5) sc_law_less.nd rfl (Or.inl rfl)) (pgs_cons (pg_name (i := 6) sc_law_less.nd rfl (Or.inl rfl)) pgs_nil)))) (fun _ _ _ _ _ => pts_nil) (fun _ _ _ _ _ => (pe_tup (pa_cons (pv 4) (pa_cons (show PE _ _ (tLc (iList K (tVar 5)) (gName 7) (tTest (tOp (rIn K true) (tVar 7) (tVar 1))) (tVar 7) [7]) from pe_lc (own := [("key", 7)]) (g := gName 7) (by rfl) sc_law_less.nd (pi_list (pv 5)) (by have hb9 : BlkOk ["told", "lost", "rows", "hands", "part", "likes", "own", "key"] { kind := .function, names := [(".0", .local), ("part", .local), ("likes", .local), ("own", .local), ("lost", .cell)], isGenerator := false, isCoroutine := false } { kind := .function, names := [(".0", .local), ("key", .local), ("lost", .free)], isGenerator := false, isCoroutine := false } [("key", 7)] := blkOk_by (by decide +kernel); exact hb9) (fun _ _ _ _ _ => pg_name (i := 7) sc_law_less.nd rfl (Or.inl rfl)) (fun _ _ _ _ _ => (pts_one (pt_cmpR (r := rIn K true) op_notIn_seq (pv 7) (pv 1) rfl))) (fun _ _ _ _ _ => (pv 7))) (pa_cons (pv 6) pa_nil))))))
      (C8.pss_cut (ps_set (i := 3) sc_law_less.nd rfl (Or.inl rfl) (pe_ifExp (pt_cmpR op_isN (pe_ix (r := rIxT K) ix_tup (pv 0) pe_int (fun _ _ => rfl)) pe_non (nomark _)) (pe_ix (r := rIxT K) ix_tup (pv 0) pe_int (fun _ _ => rfl)) (pe_ix (r := rIxT K) ix_tup (pv 0) pe_int (fun _ _ => rfl))))
      (pss_one (ps_ret (pe_tup (pa_cons (pv 2) (pa_cons (pe_lc (own := [("key", 7)]) (g := gName 7) (by rfl) sc_law_less.nd (pi_list (pe_ix (r := rIxT K) ix_tup (pv 0) pe_int (fun _ _ => rfl))) (blkOk_by (own := [("key", 7)]) (N := ["told", "lost", "rows", "hands", "part", "likes", "own", "key"]) (sc := defScope s_law_less) (by decide +kernel)) (fun _ _ _ _ _ => pg_name (i := 7) sc_law_less.nd rfl (Or.inl rfl)) (fun _ _ _ _ _ => (pts_one (pt_cmpR (r := rIn K true) op_notIn_seq (pv 7) (pv 1) rfl))) (fun _ _ _ _ _ => (pv 7))) (pa_cons (pe_ix (r := rIxT K) ix_tup (pv 0) pe_int (fun _ _ => rfl)) (pa_cons (pe_lc (own := [("key", 7)]) (g := gName 7) (by rfl) sc_law_less.nd (pi_list (pv 3)) (blkOk_by (own := [("key", 7)]) (N := ["told", "lost", "rows", "hands", "part", "likes", "own", "key"]) (sc := defScope s_law_less) (by decide +kernel)) (fun _ _ _ _ _ => pg_name (i := 7) sc_law_less.nd rfl (Or.inl rfl)) (fun _ _ _ _ _ => (pts_one (pt_cmpR (r := rIn K true) op_notIn_seq (pv 7) (pv 1) rfl))) (fun _ _ _ _ _ => (pv 7))) pa_nil))))))))), ?_⟩
    obtain ⟨⟨lr, lv, sv, e1, e2, e3, e4⟩, rs⟩ := id td
    refine ⟨_, rfl, q, _, 0, _, rfl, rfl, SqT.of e1, atI_nat (j := 0) rfl, lr, rfl, ⟨_, SqL.of e2⟩, fun D nD => ?_⟩
    refine lc_list (K := K) (a := lr) (xs := (d.rows.map (·.t)).map V.ref) (fun i H' => ∃ rows : List Use, H' D = some (.lst ((rows.map (·.t)).map V.ref)) ∧ rows.map tri = (d.rows.take i).map (fun r => (r.z, lessK ls r.ks, r.u)) ∧ (∀ r ∈ rows, TRow H' r ∧ r.t ≠ D ∧ r.a ≠ D) ∧ Same H H') ⟨[], upd_same, rfl, (fun _ h => nomatch h), same_new nD⟩ (fun i H' _ ⟨_, _, _, _, s⟩ => SqL.of (s _ _ e2)) ?_ ?_
    · rintro i x H' hx ⟨rows, eD, eR, ok, sP⟩
      obtain ⟨r, er, rfl⟩ : ∃ r, d.rows[i]? = some r ∧ x = .ref r.t := by
        rw [List.getElem?_map, List.getElem?_map] at hx
        cases c : d.rows[i]? with
        | none => rw [c] at hx; cases hx
        | some r => rw [c] at hx; exact ⟨r, rfl, (Option.some.inj hx).symm⟩
      have hr2 := List.mem_of_getElem? er
      have R := rs r hr2
      have tk : d.rows.take (i + 1) = d.rows.take i ++ [r] := by rw [List.take_succ, er]; rfl
      have lt : i < d.rows.length := (List.getElem?_eq_some_iff.mp er).1
      have rl : rows.length = i := by
        have z1 := congrArg List.length eR
        rw [List.length_map, List.length_map, List.length_take] at z1
        omega
      rw [tk]
      refine ⟨r.t, _, rfl, SqT.of (sP _ _ R.tp), rfl, _, _, rfl, _, _, rfl, _, _, rfl, rfl, rfl, yes_if ?_⟩
      refine ⟨_, rfl, _, rfl, r.a, rfl, ⟨_, SqL.of (sP _ _ R.ls)⟩, fun D2 nD2 => ?_⟩
      have g1 := same_new (o := .lst ((lessK ls r.ks).map V.str)) nD2
      refine less_lc (sP _ _ R.ls) (sP _ _ el) nD2 (by have := fk r hr2; omega) ⟨_, rfl, by show 3 ≤ sizeLine; decide, fun t nt => ?_⟩
      exact row_step (g1 _ _ eD) (fun r hr => ⟨⟨g1 _ _ (ok r hr).1.tp, g1 _ _ (ok r hr).1.ls⟩, (ok r hr).2⟩) (sP.trans g1) nD nt upd_same (ne_of_none eD nD2).symm eR rfl (by omega)
    · rintro H' ⟨rows, eD, eR, ok, sP⟩
      rw [show ((d.rows.map (·.t)).map V.ref).length = d.rows.length by rw [List.length_map, List.length_map], List.take_length] at eR
      have f1 := sP _ _ e1
      refine ⟨fun σ' H2 => ∃ lh, σ' = [some (.ref q), some (.ref l), some (.ref D), some (.ref lh), none, none, none, none] ∧ H2 = H' ∧ H' lh = some (.lst ((sgT d).map V.str)), ?_, ?_⟩
      · rcases sg_list e3 e4 with ⟨rfl, eh⟩ | ⟨lh, rfl, eh⟩
        · exact ⟨_, rfl, q, _, 3, _, rfl, rfl, SqT.of f1, atI_nat (j := 3) rfl, rfl, _, rfl, iteTe (decide_eq_true rfl) ⟨_, rfl, q, _, 1, _, rfl, rfl, SqT.of f1, atI_nat (j := 1) rfl, lv, rfl, rfl, sP _ _ eh⟩⟩
        · exact ⟨_, rfl, q, _, 3, _, rfl, rfl, SqT.of f1, atI_nat (j := 3) rfl, rfl, _, rfl, iteFe (decide_eq_false (fun z => nomatch z)) ⟨_, rfl, q, _, 3, _, rfl, rfl, SqT.of f1, atI_nat (j := 3) rfl, lh, rfl, rfl, sP _ _ eh⟩⟩
      · rintro σ' H2 ⟨lh, rfl, rfl, eh⟩
        refine ⟨_, rfl, _, rfl, q, _, 1, _, rfl, rfl, SqT.of f1, atI_nat (j := 1) rfl, lv, rfl, ⟨_, SqL.of (sP _ _ e3)⟩, fun D2 nD2 => less_lc (sP _ _ e3) (sP _ _ el) nD2 (by omega) ?_⟩
        have g1 := same_new (o := .lst ((lessK ls d.vo).map V.str)) nD2
        refine ⟨_, rfl, q, _, 2, _, rfl, rfl, SqT.of (g1 _ _ f1), atI_nat (j := 2) rfl, _, rfl, lh, rfl, ⟨_, SqL.of (g1 _ _ eh)⟩, fun D3 nD3 => less_lc (g1 _ _ eh) (g1 _ _ (sP _ _ el)) nD3 (by omega) ?_⟩
        have g2 := same_new (o := .lst ((lessK ls (sgT d)).map V.str)) nD3
        refine ⟨by show 4 ≤ sizeLine; decide, fun q' nq => ?_⟩
        have g3 := same_new (o := .tup [.ref D, .ref D2, .int d.le, .ref D3]) nq
        have g13 := (g1.trans g2).trans g3
        exact k q' ⟨rows, lessK ls d.vo, d.le, some (lessK ls (sgT d))⟩ _ (sP.free ((g1.trans g2).free nq)) (sP.trans g13) ⟨⟨D, D2, .ref D3, upd_same, g13 _ _ eD, (g2.trans g3) _ _ upd_same, ⟨D3, rfl, g3 _ _ upd_same⟩⟩, fun r hr => ⟨g13 _ _ (ok r hr).1.tp, g13 _ _ (ok r hr).1.ls⟩⟩ eR rfl rfl rfl
end

end K08

namespace K08
open PySem PySem.Spec PyProof.Rows L2 Jg
local macro_rules | `(tactic| walk_at "rd1") => `(tactic| (first
  | refine ⟨_, rfl, ?_⟩
  | refine ⟨_, _, rfl, rfl, ?_⟩
  | refine ⟨_, _, rfl, ?_⟩
  | refine ⟨rfl, ?_⟩
  | (refine ⟨show (0 : Int) < _ by omega, ?_⟩)
  | (refine ⟨Or.inl ⟨by omega, by omega⟩, ?_⟩)
  | (refine ⟨Or.inr ⟨by omega, by omega⟩, ?_⟩)
  | (refine ⟨(⟨by decide, by decide, by decide⟩ : CPow _ _), ?_⟩)
  | refine Or.inl ⟨_, rfl, ?_⟩
  | refine Or.inr ⟨_, rfl, ?_⟩
  | fail "rd"))
local macro_rules | `(tactic| walk_at "rd") => `(tactic| repeat' walk_at "rd1")


/-! ### what stands in contents, as one text -/
def kyD (us : List (Str × List Str × Str)) (vo : List Str) (ne : Int) (si : List Str) : PyData := .list [.list (us.map fun x => .tuple [.str x.1, sD x.2.1, .str x.2.2]), sD vo, .int ne, sD si]
def kyC (c : Ct) : PyData := kyD (c.us.map tri) c.vo c.ne c.si
def ShnD (d : PyData) : Prop := d.showable = true ∧ d.depth ≤ 40 ∧ d.shown.length ≤ sizeLine
def spSeen (K : PySem.W.Frag) (C : Addr) : Sp := fun vs H Q _ => ∃ x c S, vs = [.ref x] ∧ CAt S C H x c ∧ CtOk c ∧ ShnD (kyC c) ∧ ∀ H', Same H H' → Q (.str (kyC c).shown) H'
theorem dp_rows {K : PySem.W.Frag} {H : Hp} : ∀ {rows : List Use}, (∀ r ∈ rows, TRow H r) → DpAll K H ((rows.map (·.t)).map V.ref) (rows.map rowD)
  | [], _ => .nil
  | r :: t, h => .cons (.tup (SqT.of (h r (List.mem_cons_self ..)).tp) (.cons (.str _) (.cons (dp_strs (SqL.of (h r (List.mem_cons_self ..)).ls)) (.cons (.str _) .nil)))) (dp_rows fun q hq => h q (List.mem_cons_of_mem _ hq))
section
variable {P : Program} {w : World} {K : PySem.W.Frag} {mg : Str → Option Value} {base : Heap} {C CU : Addr}
abbrev s_law_seen : Stmt := top 35
theorem sc_law_seen : FnScope ["one", "rows", "part"] ["one"] (defScope s_law_seen) := ⟨rfl, rfl, rfl, by decide +kernel, rfl, by decide +kernel, by decide +kernel⟩
theorem ok_seen (D : DefK K mg "_law_seen" s_law_seen) (T : Txt K mg) (J : CTx K mg C) (P_roles : Prp P w K mg base CX0 1 C "roles" (spLst C fun c => c.us.map (·.z))) (P_vouchers : Prp P w K mg base CX0 1 C "vouchers" (spLst C (·.vo))) (P_signers : Prp P w K mg base CX0 1 C "signers" (spLst C (·.si))) (P_needed : Prp P w K mg base CX0 1 C "needed" (spNeed C))
    (M_accepted : Met P w K mg base (L2.CX P w) 4 C "accepted" (spRole K C CU outA)) (M_used : Met P w K mg base (L2.CX P w) 4 C "used" (spRole K C CU outU)) : CalG P w K mg base CX0 5 "_law_seen" (spSeen K C) := by
  refine D.calG sc_law_seen (fun _ _ _ _ _ _ us hl => match us, hl with | [_], _ => rfl) (fun vs H Q E h => ?_) fun f cdv A outer s H vs Q E g hr h => ?_
  · obtain ⟨x, c, S, rfl, _⟩ := h; rfl
  · obtain ⟨x, c, S, rfl, at_, ok, sh, k⟩ := h
    have hu : (A.deeper (envOfC "_law_seen" (defScope s_law_seen) s.heap.objs.size f cdv)).units + 64 < cLine := hr.units
    refine ⟨_, (pss_cons (ps_setLc (i := 1) (own := [("part", 2)]) (g := gName 2) (by rfl) sc_law_seen.nd rfl rfl (sw_true rfl rfl rfl (by decide +kernel)) (pi_list (pe_p P_roles J.cl hr (by decide) (pv 0))) (blkOk_by (own := [("part", 2)]) (N := ["one", "rows", "part"]) (sc := defScope s_law_seen) (by decide +kernel)) (fun _ _ _ _ _ => pg_name (i := 2) sc_law_seen.nd rfl (Or.inl rfl)) (fun _ _ _ _ _ => pts_nil) (fun _ _ _ _ _ => (pe_tup (pa_cons (pv 2) (pa_cons (pe_mS M_accepted J.cl takes0 hr (by decide) (pv 0) (pa_cons (pv 2) pa_nil)) (pa_cons (pe_mS M_used J.cl takes0 hr (by decide) (pv 0) (pa_cons (pv 2) pa_nil)) pa_nil))))))
      (pss_one (ps_ret (pe_callB (call_reprD g hu) (by rfl) T.b_repr (by decide +kernel) (pa_cons (pe_lst (pa_cons (pv 1) (pa_cons (pe_p P_vouchers J.cl hr (by decide) (pv 0)) (pa_cons (pe_p P_needed J.cl hr (by decide) (pv 0)) (pa_cons (pe_p P_signers J.cl hr (by decide) (pv 0)) pa_nil))))) pa_nil))))), ?_⟩
    have big : (1000 : Nat) ≤ sizeLine := by decide
    have nof : ∀ {d v : Addr} {n : Int} {s : Addr}, (cflds d v n s).lookup ("accepted" : Str) = none := get_no _ _ _ _ (by decide +kernel) (by decide +kernel) (by decide +kernel) (by decide +kernel)
    have nof2 : ∀ {d v : Addr} {n : Int} {s : Addr}, (cflds d v n s).lookup ("used" : Str) = none := get_no _ _ _ _ (by decide +kernel) (by decide +kernel) (by decide +kernel) (by decide +kernel)
    obtain ⟨⟨dx, d, v, sg, e1, e2, e3, e4, _⟩, us⟩ := id at_
    refine ⟨_, rfl, x, dx, _, rfl, e1, x, c, S, rfl, at_, fun l0 n0 => ⟨l0, rfl, ⟨_, SqL.of upd_same⟩, fun D nD => ?_⟩⟩
    have s0 := same_new (o := .lst ((c.us.map (·.z)).map V.str)) n0
    have e0 : upd H l0 (.lst ((c.us.map (·.z)).map V.str)) l0 = some (.lst ((c.us.map (·.z)).map V.str)) := upd_same
    generalize upd H l0 (.lst ((c.us.map (·.z)).map V.str)) = H0 at *
    refine lc_list (K := K) (a := l0) (xs := (c.us.map (·.z)).map V.str) (fun i H' => ∃ rows : List Use, H' D = some (.lst ((rows.map (·.t)).map V.ref)) ∧ rows.map tri = (c.us.take i).map tri ∧ (∀ r ∈ rows, TRow H' r ∧ r.t ≠ D ∧ r.a ≠ D) ∧ Same H0 H')
      ⟨[], upd_same, rfl, (fun _ h => nomatch h), same_new nD⟩ (fun i H' _ ⟨_, _, _, _, s⟩ => SqL.of (s _ _ e0)) ?_ ?_
    · rintro i y H' hy ⟨rows, eD, els, rok, s'⟩
      obtain ⟨z, ez, rfl⟩ := str_at hy
      obtain ⟨r, er, rfl⟩ : ∃ r, c.us[i]? = some r ∧ z = r.z := by
        rw [List.getElem?_map] at ez
        cases q : c.us[i]? with
        | none => rw [q] at ez; cases ez
        | some r => rw [q] at ez; exact ⟨r, rfl, (Option.some.inj ez).symm⟩
      have hr' := List.mem_of_getElem? er
      have sx := s0.trans s'
      have tk : c.us.take (i + 1) = c.us.take i ++ [r] := by rw [List.take_succ, er]; rfl
      have rl : rows.length ≤ 3 := by
        have l := congrArg List.length els
        have n3 := ok.n3
        rw [List.length_map, List.length_map, List.length_take] at l
        omega
      refine ⟨rfl, yes_if ⟨_, rfl, _, rfl, x, dx, _, rfl, sx _ _ e1, nof, _, rfl, x, _, c, S, rfl, at_.same sx, ok, .inl ⟨r, hr', rfl, fun p1 n1 => ?_⟩⟩⟩
      have s1 := same_new (o := .lst (r.ks.map V.str)) n1
      have ep1 : upd H' p1 (.lst (r.ks.map V.str)) p1 = some (.lst (r.ks.map V.str)) := upd_same
      have n1D : p1 ≠ D := (ne_of_none eD n1).symm
      generalize upd H' p1 (.lst (r.ks.map V.str)) = H1 at *
      refine ⟨_, rfl, x, dx, _, rfl, s1 _ _ (sx _ _ e1), nof2, _, rfl, x, _, c, S, rfl, at_.same (sx.trans s1), ok, .inl ⟨r, hr', rfl, by show 3 ≤ sizeLine; decide, fun t nt => ?_⟩⟩
      have eD1 := s1 _ _ eD
      have st := same_new (o := .tup [.str r.z, .ref p1, .str r.u]) nt
      have ntD : t ≠ D := (ne_of_none eD1 nt).symm
      refine ⟨_, st _ _ eD1, by rw [List.length_map, List.length_map, sizeLine_eq]; omega, rows ++ [⟨r.z, t, p1, r.ks, r.u⟩], by rw [upd_same, List.map_append, List.map_append]; rfl, by rw [List.map_append, els, tk, List.map_append]; rfl, fun q hq => ?_, fun q o e => by rw [upd_ne (ne_of_none e nD)]; exact st _ _ (s1 _ _ (s' _ _ e))⟩
      rcases List.mem_append.mp hq with hq | hq
      · obtain ⟨R2, m1, m2⟩ := rok q hq
        exact ⟨⟨by rw [upd_ne m1]; exact st _ _ (s1 _ _ R2.tp), by rw [upd_ne m2]; exact st _ _ (s1 _ _ R2.ls)⟩, m1, m2⟩
      · obtain rfl := List.mem_singleton.mp hq
        exact ⟨⟨by rw [upd_ne ntD]; exact upd_same, by rw [upd_ne n1D]; exact st _ _ ep1⟩, ntD, n1D⟩
    · rintro HA ⟨rows, eD, els, rok, sA⟩
      rw [List.length_map, List.length_map, List.take_length] at els
      have sa := s0.trans sA
      refine ⟨_, rfl, _, rfl, x, dx, _, rfl, sa _ _ e1, x, c, S, rfl, at_.same sa, fun q1 nq1 => ?_⟩
      have t1 := same_new (o := .lst (c.vo.map V.str)) nq1
      have g1 : upd HA q1 (.lst (c.vo.map V.str)) q1 = some (.lst (c.vo.map V.str)) := upd_same
      generalize upd HA q1 (.lst (c.vo.map V.str)) = HB at *
      have sb := sa.trans t1
      refine ⟨_, rfl, x, dx, _, rfl, sb _ _ e1, x, c, S, rfl, at_.same sb, ?_⟩
      refine ⟨_, rfl, x, dx, _, rfl, sb _ _ e1, x, c, S, rfl, at_.same sb, fun q2 nq2 => ?_⟩
      have t2 := same_new (o := .lst (c.si.map V.str)) nq2
      have g2 : upd HB q2 (.lst (c.si.map V.str)) q2 = some (.lst (c.si.map V.str)) := upd_same
      generalize upd HB q2 (.lst (c.si.map V.str)) = HC at *
      have sc := sb.trans t2
      refine ⟨by show 4 ≤ sizeLine; decide, fun l nl => ?_⟩
      have t4 := same_new (o := .lst [.ref D, .ref q1, .int c.ne, .ref q2]) nl
      refine ⟨l, kyC c, rfl, .lst (SqL.of upd_same) (.cons ?_ (.cons ?_ (.cons (.int _) (.cons ?_ .nil)))), sh.1, sh.2.1, sh.2.2, k _ (sc.trans t4)⟩
      · have ed : (c.us.map tri).map (fun x => PyData.tuple [.str x.1, sD x.2.1, .str x.2.2]) = rows.map rowD := by
          have e1 : rows.map rowD = (rows.map tri).map fun x => PyData.tuple [.str x.1, sD x.2.1, .str x.2.2] := by rw [List.map_map]; rfl
          rw [e1, els]
        rw [ed]
        exact .lst (SqL.of (t4 _ _ (t2 _ _ (t1 _ _ eD)))) (dp_rows fun r hr => ⟨t4 _ _ (t2 _ _ (t1 _ _ (rok r hr).1.tp)), t4 _ _ (t2 _ _ (t1 _ _ (rok r hr).1.ls))⟩)
      · exact dp_strs (SqL.of (t4 _ _ (t2 _ _ g1)))
      · exact dp_strs (SqL.of (t4 _ _ g2))
end

end K08

namespace K08
open PySem PySem.Spec PyProof.Rows L2 Jg
local macro_rules | `(tactic| walk_at "rd1") => `(tactic| (first
  | refine ⟨_, rfl, ?_⟩
  | refine ⟨_, _, rfl, rfl, ?_⟩
  | refine ⟨_, _, rfl, ?_⟩
  | refine ⟨rfl, ?_⟩
  | (refine ⟨show (0 : Int) < _ by omega, ?_⟩)
  | (refine ⟨Or.inl ⟨by omega, by omega⟩, ?_⟩)
  | (refine ⟨Or.inr ⟨by omega, by omega⟩, ?_⟩)
  | (refine ⟨(⟨by decide, by decide, by decide⟩ : CPow _ _), ?_⟩)
  | refine Or.inl ⟨_, rfl, ?_⟩
  | refine Or.inr ⟨_, rfl, ?_⟩
  | fail "rd"))
local macro_rules | `(tactic| walk_at "rd") => `(tactic| repeat' walk_at "rd1")


/-! ### what is told, as one text -/
def srtR (rows : List Use) : List Use := rows.mergeSort fun r q => bef r.z q.z
def kyT (d : Td) : PyData := kyD ((srtR d.rows).map fun r => (r.z, srtW r.ks, r.u)) (srtW d.vo) d.le (srtW (sgT d))
structure TdFew (d : Td) : Prop where
  n3 : d.rows.length ≤ 3
  nd : (d.rows.map (·.z)).Nodup
  ks : ∀ r ∈ d.rows, r.ks.length ≤ 50
  vo : d.vo.length ≤ 50
  sg : (sgT d).length ≤ 50
theorem dp_row {K : PySem.W.Frag} {H : Hp} {r : Use} (h : TRow H r) : Dp K H (.ref r.t) (rowD r) := .tup (SqT.of h.tp) (.cons (.str _) (.cons (dp_strs (SqL.of h.ls)) (.cons (.str _) .nil)))
theorem alike_strs : ∀ xs ys : List Str, PySem.W.alikeAll (xs.map PyData.str) (ys.map PyData.str) = true
  | [], _ => by simp [PySem.W.alikeAll]
  | _ :: _, [] => by simp [PySem.W.alikeAll]
  | x :: xs, y :: ys => by
    show PySem.W.alikeAll (PyData.str x :: xs.map PyData.str) (PyData.str y :: ys.map PyData.str) = true
    rw [PySem.W.alikeAll, alike_strs xs ys]
    simp [PySem.W.alike]
theorem alike_rows (r q : Use) : PySem.W.alike (rowD r) (rowD q) = true := by
  unfold rowD sD
  simp only [PySem.W.alike, PySem.W.alikeAll, alike_strs, Bool.and_true]
theorem depth_row (r : Use) : (rowD r).depth ≤ 40 := by
  show max 0 (max (PyData.depthAll (r.ks.map PyData.str) + 1) (max 0 0)) + 1 ≤ 40
  rw [depth_strs]; decide
theorem t_at {rows : List Use} {i : Nat} {x : V} (h : ((rows.map (·.t)).map V.ref)[i]? = some x) : ∃ r, rows[i]? = some r ∧ x = .ref r.t := by
  rw [List.getElem?_map, List.getElem?_map] at h
  cases c : rows[i]? with
  | none => rw [c] at h; cases h
  | some r => rw [c] at h; exact ⟨r, rfl, (Option.some.inj h).symm⟩
def spKey (K : PySem.W.Frag) : Sp := fun vs H Q _ => ∃ q d, vs = [.ref q] ∧ TdAt H q d ∧ TdFew d ∧ ShnD (kyT d) ∧ ∀ H', Same H H' → Q (.str (kyT d).shown) H'
section
variable {P : Program} {w : World} {K : PySem.W.Frag} {mg : Str → Option Value} {base : Heap}
abbrev s_law_key : Stmt := top 34
theorem sc_law_key : FnScope ["told", "parts", "rows", "vouch", "least", "signing", "part", "likes", "own"] ["told"] (defScope s_law_key) := ⟨rfl, rfl, rfl, by decide +kernel, rfl, by decide +kernel, by decide +kernel⟩
theorem ok_key (D : DefK K mg "_law_key" s_law_key) (T : Txt K mg) : CalG P w K mg base CX0 1 "_law_key" (spKey K) := by
  refine D.calG sc_law_key (fun _ _ _ _ _ _ us hl => match us, hl with | [_], _ => rfl) (fun vs H Q E h => ?_) fun f cdv A outer s H vs Q E g hr h => ?_
  · obtain ⟨q, d, rfl, _⟩ := h; rfl
  · obtain ⟨q, d, rfl, td, few, sh, k⟩ := h
    have hu : (A.deeper (envOfC "_law_key" (defScope s_law_key) s.heap.objs.size f cdv)).units + 64 < cLine := hr.units
    refine ⟨_, (pss_cons (ps_asg (pv 0) (pg_tup rfl (pgs_cons (pg_name (i := 2) sc_law_key.nd rfl (Or.inl rfl)) (pgs_cons (pg_name (i := 3) sc_law_key.nd rfl (Or.inl rfl)) (pgs_cons (pg_name (i := 4) sc_law_key.nd rfl (Or.inl rfl)) (pgs_cons (pg_name (i := 5) sc_law_key.nd rfl (Or.inl rfl)) pgs_nil))))))
      (pss_cons (ps_set (i := 1) sc_law_key.nd rfl (Or.inl rfl) (pe_callB (cr_sortD hr.units) (by rfl) T.b_sorted (by decide +kernel) (pa_cons (pe_lc (own := [("part", 6), ("likes", 7), ("own", 8)]) (g := gTup K 3 (gCons (gName 6) (gCons (gName 7) (gCons (gName 8) gNil)))) (by rfl) sc_law_key.nd (pi_list (pv 2)) (blkOk_by (own := [("part", 6), ("likes", 7), ("own", 8)]) (N := ["told", "parts", "rows", "vouch", "least", "signing", "part", "likes", "own"]) (sc := defScope s_law_key) (by decide +kernel)) (fun _ _ _ _ _ => pg_tup rfl (pgs_cons (pg_name (i := 6) sc_law_key.nd rfl (Or.inl rfl)) (pgs_cons (pg_name (i := 7) sc_law_key.nd rfl (Or.inl rfl)) (pgs_cons (pg_name (i := 8) sc_law_key.nd rfl (Or.inl rfl)) pgs_nil)))) (fun _ _ _ _ _ => pts_nil) (fun _ _ _ _ _ => (pe_tup (pa_cons (pv 6) (pa_cons (pe_callB (id := "sorted") (r := rSortedS K) cr_sortedS (by rfl) T.b_sorted (by decide +kernel) (pa_cons (pv 7) pa_nil)) (pa_cons (pv 8) pa_nil)))))) pa_nil)))
      (pss_one (ps_ret (pe_callB (call_reprD g hu) (by rfl) T.b_repr (by decide +kernel) (pa_cons (pe_lst (pa_cons (pv 1) (pa_cons (pe_callB cr_sortedS (by rfl) T.b_sorted (by decide +kernel) (pa_cons (pv 3) pa_nil)) (pa_cons (pv 4) (pa_cons (pe_callB cr_sortedS (by rfl) T.b_sorted (by decide +kernel) (pa_cons (pe_ifExp (pt_cmpR op_isN (pv 5) pe_non (nomark _)) (pv 3) (pv 5)) pa_nil)) pa_nil))))) pa_nil)))))), ?_⟩
    obtain ⟨⟨lr, lv, sv, e1, e2, e3, e4⟩, rok⟩ := id td
    have big : (1000 : Nat) ≤ sizeLine := by decide
    have n3 := few.n3
    have vl := few.vo
    have sgl := few.sg
    refine ⟨_, rfl, q, _, rfl, SqT.of e1, rfl, _, _, rfl, _, _, rfl, _, _, rfl, _, _, rfl, rfl, ?_⟩
    refine ⟨_, rfl, lr, rfl, ⟨_, SqL.of e2⟩, fun D2 nD2 => lc_list (K := K) (a := lr) (xs := (d.rows.map (·.t)).map V.ref) (fun i H' => ∃ rows : List Use, H' D2 = some (.lst ((rows.map (·.t)).map V.ref)) ∧ rows.map tri = (d.rows.take i).map (fun r => (r.z, srtW r.ks, r.u)) ∧ (∀ r ∈ rows, TRow H' r ∧ r.t ≠ D2 ∧ r.a ≠ D2) ∧ Same H H')
      ⟨[], upd_same, rfl, (fun _ h => nomatch h), same_new nD2⟩ (fun i H' _ ⟨_, _, _, _, s⟩ => SqL.of (s _ _ e2)) ?_ ?_⟩
    · rintro i x H' hx ⟨rows, eD2, els2, rok2, s'⟩
      obtain ⟨r, er, rfl⟩ := t_at hx
      have hr' := List.mem_of_getElem? er
      have R := rok r hr'
      have sx := s'
      have tk : d.rows.take (i + 1) = d.rows.take i ++ [r] := by rw [List.take_succ, er]; rfl
      have kl := few.ks r hr'
      have rl : rows.length ≤ 3 := by
        have l := congrArg List.length els2
        rw [List.length_map, List.length_map, List.length_take] at l
        omega
      refine ⟨r.t, _, rfl, SqT.of (sx _ _ R.tp), rfl, _, _, rfl, _, _, rfl, _, _, rfl, rfl, rfl, yes_if ⟨_, rfl, _, rfl, r.a, _, rfl, SqL.of (sx _ _ R.ls), by omega, fun ys p4 pm so n4 => ⟨_, rfl, by show 3 ≤ sizeLine; decide, fun t nt => ?_⟩⟩⟩
      have ey : ys = srtW r.ks := srt_eq so pm
      subst ey
      have sy := (same_new (o := .lst ((srtW r.ks).map V.str)) n4).trans (same_new (o := .tup [.str r.z, .ref p4, .str r.u]) nt)
      have et : upd (upd H' p4 (.lst ((srtW r.ks).map V.str))) t (.tup [.str r.z, .ref p4, .str r.u]) t = some (.tup [.str r.z, .ref p4, .str r.u]) := upd_same
      have e4' : upd (upd H' p4 (.lst ((srtW r.ks).map V.str))) t (.tup [.str r.z, .ref p4, .str r.u]) p4 = some (.lst ((srtW r.ks).map V.str)) := same_new nt _ _ upd_same
      have n4D : p4 ≠ D2 := (ne_of_none eD2 n4).symm
      have ntD : t ≠ D2 := fun e => by rw [e, upd_ne n4D.symm, eD2] at nt; cases nt
      generalize upd (upd H' p4 (.lst ((srtW r.ks).map V.str))) t (.tup [.str r.z, .ref p4, .str r.u]) = H4 at *
      refine ⟨_, sy _ _ eD2, by rw [List.length_map, List.length_map, sizeLine_eq]; omega, rows ++ [⟨r.z, t, p4, srtW r.ks, r.u⟩], by rw [upd_same, List.map_append, List.map_append]; rfl, by rw [List.map_append, els2, tk, List.map_append]; rfl, fun q hq => ?_, fun q o e => by rw [upd_ne (ne_of_none e nD2)]; exact sy _ _ (s' _ _ e)⟩
      rcases List.mem_append.mp hq with hq | hq
      · obtain ⟨R2, m1, m2⟩ := rok2 q hq
        exact ⟨⟨by rw [upd_ne m1]; exact sy _ _ R2.tp, by rw [upd_ne m2]; exact sy _ _ R2.ls⟩, m1, m2⟩
      · obtain rfl := List.mem_singleton.mp hq
        exact ⟨⟨by rw [upd_ne ntD]; exact et, by rw [upd_ne n4D]; exact e4'⟩, ntD, n4D⟩
    rintro HE ⟨rows, eD2, els2, rok2, sE⟩
    rw [List.length_map, List.length_map, List.take_length] at els2
    have zs : rows.map (·.z) = d.rows.map (·.z) := by
      have z := congrArg (List.map Prod.fst) els2
      rw [List.map_map, List.map_map] at z
      exact z
    have ebs : (rows.map fun r => (V.ref r.t, rowD r)).map Prod.fst = (rows.map (·.t)).map V.ref := by rw [List.map_map, List.map_map]; rfl
    have ebs2 : (rows.map fun r => (V.ref r.t, rowD r)).map Prod.snd = rows.map rowD := by rw [List.map_map]; rfl
    refine ⟨D2, rows.map fun r => (V.ref r.t, rowD r), rfl, SqL.of (by rw [ebs]; exact eD2), fun b hb => ?_, by rw [ebs2]; exact PySem.W.AllAlike.of fun r q => alike_rows r q, by rw [ebs2]; exact PySem.W.Sortable.tuples fun r => ⟨_, _, rfl⟩, fun p6 n6 => ?_⟩
    · obtain ⟨r, hr', rfl⟩ := List.mem_map.mp hb
      exact ⟨dp_row (rok2 r hr').1, depth_row r⟩
    have ndR : (rows.map (·.z)).Nodup := by rw [zs]; exact few.nd
    obtain ⟨sv1, sv2⟩ := srtV_rows (z := Use.z) (v := fun r => V.ref r.t) (rest := fun r => [sD r.ks, .str r.u]) ndR
    have s6 := sE.trans (same_new (o := .lst (srtV (rows.map fun r => (V.ref r.t, rowD r)))) n6)
    have e6 : upd HE p6 (.lst (srtV (rows.map fun r => (V.ref r.t, rowD r)))) p6 = some (.lst (((srtR rows).map (·.t)).map V.ref)) := by
      rw [upd_same]
      have z : srtV (rows.map fun r => (V.ref r.t, rowD r)) = ((srtR rows).map (·.t)).map V.ref := by rw [List.map_map]; exact sv1
      rw [z]
    have rok6 : ∀ r ∈ srtR rows, TRow (upd HE p6 (.lst (srtV (rows.map fun r => (V.ref r.t, rowD r))))) r := fun r hr => by
      have hm : r ∈ rows := (List.mergeSort_perm rows _).mem_iff.mp hr
      have R := (rok2 r hm).1
      exact ⟨same_new n6 _ _ R.tp, same_new n6 _ _ R.ls⟩
    generalize upd HE p6 (.lst (srtV (rows.map fun r => (V.ref r.t, rowD r)))) = HF at *
    obtain ⟨hv, ehv, eh⟩ : ∃ hv, (if sv = .non then V.ref lv else sv) = .ref hv ∧ H hv = some (.lst ((sgT d).map V.str)) := by
      rcases sg_list e3 e4 with ⟨rfl, el⟩ | ⟨l, rfl, el⟩
      · exact ⟨lv, if_pos rfl, el⟩
      · exact ⟨l, if_neg (fun z => nomatch z), el⟩
    refine ⟨_, rfl, _, rfl, lv, _, rfl, SqL.of (s6 _ _ e3), by omega, fun y1 q1 pm1 so1 nq1 => ?_⟩
    have t1 := same_new (o := .lst (y1.map V.str)) nq1
    have eq1 : upd HF q1 (.lst (y1.map V.str)) q1 = some (.lst (y1.map V.str)) := upd_same
    generalize upd HF q1 (.lst (y1.map V.str)) = HG at *
    refine ⟨_, rfl, _, rfl, rfl, _, rfl, if_none rfl rfl ?_⟩
    rw [ehv]
    refine ⟨hv, _, rfl, SqL.of (t1 _ _ (s6 _ _ eh)), by omega, fun y2 q2 pm2 so2 nq2 => ?_⟩
    have t2 := same_new (o := .lst (y2.map V.str)) nq2
    have eq2 : upd HG q2 (.lst (y2.map V.str)) q2 = some (.lst (y2.map V.str)) := upd_same
    generalize upd HG q2 (.lst (y2.map V.str)) = HI at *
    refine ⟨by show 4 ≤ sizeLine; decide, fun l nl => ?_⟩
    have t4 := same_new (o := .lst [.ref p6, .ref q1, .int d.le, .ref q2]) nl
    refine ⟨l, kyT d, rfl, .lst (SqL.of upd_same) (.cons ?_ (.cons ?_ (.cons (.int _) (.cons ?_ .nil)))), sh.1, sh.2.1, sh.2.2, k _ (((s6.trans t1).trans t2).trans t4)⟩
    · have ed : ((srtR d.rows).map fun r => (r.z, srtW r.ks, r.u)).map (fun x => PyData.tuple [.str x.1, sD x.2.1, .str x.2.2]) = (srtR rows).map rowD := by
        have e1 : (srtR rows).map rowD = ((srtR rows).map tri).map fun x => PyData.tuple [.str x.1, sD x.2.1, .str x.2.2] := by rw [List.map_map]; rfl
        have e2 : (srtR rows).map tri = (srtR d.rows).map fun r => (r.z, srtW r.ks, r.u) := by
          have m1 : (srtR rows).map tri = (rows.map tri).mergeSort fun x y => bef x.1 y.1 := PySem.W.sort_maps tri fun a _ b _ => rfl
          have m2 : ((srtR d.rows).map fun r => (r.z, srtW r.ks, r.u)) = (d.rows.map fun r => (r.z, srtW r.ks, r.u)).mergeSort fun x y => bef x.1 y.1 := PySem.W.sort_maps (fun r : Use => (r.z, srtW r.ks, r.u)) fun a _ b _ => rfl
          rw [m1, m2, els2]
        rw [e1, e2]
      rw [ed]
      exact .lst (SqL.of (t4 _ _ (t2 _ _ (t1 _ _ e6)))) (dp_rows fun r hr => ⟨t4 _ _ (t2 _ _ (t1 _ _ (rok6 r hr).tp)), t4 _ _ (t2 _ _ (t1 _ _ (rok6 r hr).ls))⟩)
    · rw [srt_eq so1 pm1] at eq1
      exact dp_strs (SqL.of (t4 _ _ (t2 _ _ eq1)))
    · rw [srt_eq so2 pm2] at eq2
      exact dp_strs (SqL.of (t4 _ _ eq2))
end

end K08

namespace K08
open PySem PySem.Spec PyProof.Rows L2 Jg
local macro_rules | `(tactic| walk_at "rd1") => `(tactic| (first
  | refine ⟨_, rfl, ?_⟩
  | refine ⟨_, _, rfl, rfl, ?_⟩
  | refine ⟨_, _, rfl, ?_⟩
  | refine ⟨rfl, ?_⟩
  | (refine ⟨show (0 : Int) < _ by omega, ?_⟩)
  | (refine ⟨Or.inl ⟨by omega, by omega⟩, ?_⟩)
  | (refine ⟨Or.inr ⟨by omega, by omega⟩, ?_⟩)
  | (refine ⟨(⟨by decide, by decide, by decide⟩ : CPow _ _), ?_⟩)
  | refine Or.inl ⟨_, rfl, ?_⟩
  | refine Or.inr ⟨_, rfl, ?_⟩
  | fail "rd"))
local macro_rules | `(tactic| walk_at "rd") => `(tactic| repeat' walk_at "rd1")


/-! ### contents and what was told of them: the same text -/
theorem same_z : ∀ {xs ys : List Use}, (xs.map (·.z)) = ys.map (·.z) → (∀ r ∈ xs, ∃ q ∈ ys, q.z = r.z ∧ q.u = r.u ∧ r.ks = srtW q.ks) → (ys.map (·.z)).Nodup → xs.map tri = ys.map fun r => (r.z, srtW r.ks, r.u)
  | [], [], _, _, _ => rfl
  | [], _ :: _, e, _, _ => nomatch e
  | _ :: _, [], e, _, _ => nomatch e
  | x :: xs, y :: ys, e, h, nd => by
    injection e with e1 e2
    rw [List.map_cons, List.nodup_cons] at nd
    obtain ⟨q, hq, f1, f2, f3⟩ := h x (List.mem_cons_self ..)
    have qy : q = y := by
      rcases List.mem_cons.mp hq with h | h
      · exact h
      · exact absurd (List.mem_map.mpr ⟨q, h, f1.trans e1⟩) nd.1
    subst qy
    have ih := same_z e2 (fun r hr => by
      obtain ⟨p, hp, g⟩ := h r (List.mem_cons_of_mem _ hr)
      rcases List.mem_cons.mp hp with h | h
      · subst h
        exact absurd (by rw [← e2]; exact List.mem_map.mpr ⟨r, hr, g.1.symm⟩) nd.1
      · exact ⟨p, h, g⟩) nd.2
    show (x.z, x.ks, x.u) :: xs.map tri = (q.z, srtW q.ks, q.u) :: _
    rw [ih, f1, f2, f3]
theorem ct_tri {d : Td} {c : Ct} (ok : TdR d) (ci : CtIs d c) : c.us.map tri = (srtR d.rows).map fun r => (r.z, srtW r.ks, r.u) := by
  have pm : (srtR d.rows).Perm d.rows := List.mergeSort_perm _ _
  have zs : (srtR d.rows).map (·.z) = srtW (d.rows.map (·.z)) := PySem.W.sort_maps (fun r : Use => r.z) fun a _ b _ => rfl
  refine same_z (ci.zs.trans zs.symm) (fun r hr => ?_) ((pm.map _).nodup_iff.mpr ok.nd)
  obtain ⟨q, hq, e⟩ := ci.us r hr
  exact ⟨q, pm.mem_iff.mpr hq, e⟩
theorem ky_eq {d : Td} {c : Ct} (ok : TdR d) (ci : CtIs d c) : kyC c = kyT d := by
  unfold kyC kyT
  rw [ct_tri ok ci, ci.vo, ci.ne, ci.si]
theorem WdL.srt {ks : List Str} {m : Nat} (h : WdL ks m) : WdL (srtW ks) m := h.perm (srtW_perm ks)
theorem sgT_wd {d : Td} (ok : TdR d) : WdL (sgT d) 4 := by
  unfold sgT
  cases c : d.sg with
  | none => exact ok.vo
  | some ks => exact ok.sg ks c
theorem TdR.few {d : Td} (ok : TdR d) : TdFew d := ⟨ok.n3, ok.nd, fun r hr => by have := (ok.rw_ r hr).2.2.le; omega, by have := ok.vo.le; omega, by have := (sgT_wd ok).le; omega⟩
theorem Wd.sb {z : Str} (h : Wd z) : Jg.Sb (.str z) 7 0 := .str h.2.2 fun c hc => Nat.lt_of_le_of_lt (h.1 c hc).2 (by decide)
theorem WdL.sb {ks : List Str} {m : Nat} (h : WdL ks m) : Jg.Sb (sD ks) (m * 8) 1 := by
  have a : SbAll (ks.map PyData.str) ((ks.map PyData.str).length * (7 + 1)) 0 := SbAll.of fun x hx => by
    obtain ⟨z, hz, rfl⟩ := List.mem_map.mp hx
    exact (h.wd z hz).sb
  have l := h.le
  exact (a.mono (by rw [List.length_map]; omega) (Nat.le_refl _)).list
theorem sb_ky {d : Td} (ok : TdR d) : Jg.Sb (kyT d) 10000 9 := by
  have n3 := ok.n3
  have pm : (srtR d.rows).Perm d.rows := List.mergeSort_perm _ _
  have a1 : SbAll (((srtR d.rows).map fun r => (r.z, srtW r.ks, r.u)).map fun x => PyData.tuple [.str x.1, sD x.2.1, .str x.2.2]) ((((srtR d.rows).map fun r => (r.z, srtW r.ks, r.u)).map fun x => PyData.tuple [.str x.1, sD x.2.1, .str x.2.2]).length * (100 + 1)) 3 := .of fun x hx => by
    rw [List.map_map] at hx
    obtain ⟨r, hr, rfl⟩ := List.mem_map.mp hx
    obtain ⟨w1, w2, w3⟩ := ok.rw_ r (pm.mem_iff.mp hr)
    have a : SbAll [.str r.z, sD (srtW r.ks), .str r.u] (7 + 1 + (8 * 8 + 1 + (7 + 1 + 0))) 1 := .cons (w1.sb.mono (Nat.le_refl _) (by decide)) (.cons w3.srt.sb (.cons (w2.sb.mono (Nat.le_refl _) (by decide)) .nil))
    exact a.tuple.mono (by decide) (by decide)
  have b1 := (a1.mono (m := 400) (l := 3) (by rw [List.length_map, List.length_map, pm.length_eq]; omega) (Nat.le_refl _)).list
  have b3 : Jg.Sb (.int d.le) 0 0 := .int (by have := ok.le; omega)
  exact ((SbAll.cons b1 (.cons (ok.vo.srt.sb.mono (Nat.le_refl _) (by decide)) (.cons (b3.mono (Nat.le_refl _) (by decide)) (.cons ((sgT_wd ok).srt.sb.mono (Nat.le_refl _) (by decide)) (SbAll.nil (n := 0)))))).list).mono (by decide) (by decide)
theorem shn_ky {d : Td} (ok : TdR d) : ShnD (kyT d) := (sb_ky ok).ask (by decide) (by decide)

end K08

/-! the repr of lists of lower-case texts tells the texts -/
namespace Jg
open PySem PySem.Spec PyProof.Rows L2
def tlS (z : Str) : List Nat := z.cps.toList
theorem tlS_app (a b : Str) : tlS (a ++ b) = tlS a ++ tlS b := by unfold tlS; rw [Str.cps_append, Array.toList_append]
theorem tlS_inj {a b : Str} (h : tlS a = tlS b) : a = b := by
  cases a with | mk a => cases b with | mk b => 
    have z : a = b := Array.toList_inj.mp h
    rw [z]
/-- lower-case signs only -/
def Low (z : Str) : Prop := ∀ c ∈ tlS z, 97 ≤ c ∧ c ≤ 122
theorem low_char : ∀ c, c < 123 → 97 ≤ c → Builtin.Str.reprChar 39 c = [c] := by decide +kernel
theorem fold_low : ∀ (l : List Nat) (acc : Array Nat), (∀ c ∈ l, 97 ≤ c ∧ c ≤ 122) → (l.foldl (fun out c => out ++ (Builtin.Str.reprChar 39 c).toArray) acc).toList = acc.toList ++ l
  | [], acc, _ => by simp
  | c :: r, acc, h => by
    have hc := h c List.mem_cons_self
    rw [List.foldl_cons, fold_low r _ fun x hx => h x (List.mem_cons_of_mem _ hx), low_char c (by omega) hc.1]
    simp
theorem tl_repr {z : Str} (h : Low z) : tlS (reprText z) = 39 :: (tlS z ++ [39]) := by
  have q : reprQuote z = 39 := by
    unfold reprQuote
    have n : z.cps.contains 39 = false := by
      cases hc : z.cps.contains 39 with
      | false => rfl
      | true =>
        have m : 39 ∈ z.cps := by simpa using hc
        have m2 := h 39 (by unfold tlS; exact Array.mem_toList_iff.mpr m)
        omega
    rw [n]; rfl
  unfold reprText
  rw [q]
  show ((z.cps.foldl (fun out c => out ++ (Builtin.Str.reprChar 39 c).toArray) #[39]).push 39).toList = _
  rw [← Array.foldl_toList, Array.toList_push, fold_low _ _ (show ∀ c ∈ z.cps.toList, 97 ≤ c ∧ c ≤ 122 from h)]
  rfl
/-- what stands behind -/
theorem quote_cut : ∀ {a b x y : List Nat}, (∀ c ∈ a, c ≠ 39) → (∀ c ∈ b, c ≠ 39) → a ++ 39 :: x = b ++ 39 :: y → a = b ∧ x = y
  | [], [], _, _, _, _, e => ⟨rfl, by injection e⟩
  | [], c :: b, _, _, _, hb, e => by
    injection e with e1 e2
    exact absurd e1.symm (hb c List.mem_cons_self)
  | c :: a, [], _, _, ha, _, e => by
    injection e with e1 e2
    exact absurd e1 (ha c List.mem_cons_self)
  | c :: a, d :: b, _, _, ha, hb, e => by
    injection e with e1 e2
    obtain ⟨h1, h2⟩ := quote_cut (fun x hx => ha x (List.mem_cons_of_mem _ hx)) (fun x hx => hb x (List.mem_cons_of_mem _ hx)) e2
    exact ⟨by rw [e1, h1], h2⟩
theorem str_cut {z z' : Str} {x y : List Nat} (h : Low z) (h' : Low z') (e : tlS (PyData.str z).shown ++ x = tlS (PyData.str z').shown ++ y) : z = z' ∧ x = y := by
  rw [PyData.shown_str, PyData.shown_str, tl_repr h, tl_repr h'] at e
  rw [List.cons_append, List.cons_append, List.append_assoc, List.append_assoc] at e
  have e := (List.cons.inj e).2
  obtain ⟨a, b⟩ := quote_cut (fun c hc => by have := h c hc; omega) (fun c hc => by have := h' c hc; omega) e
  exact ⟨tlS_inj a, b⟩
/-- prefix-unique: two of these shown, with something behind, are the same -/
def Cut (D : PyData → Prop) : Prop := ∀ d d' x y, D d → D d' → tlS d.shown ++ x = tlS d'.shown ++ y → d = d' ∧ x = y
theorem tl_join (ds : List PyData) : ∀ d, tlS (Str.join ", " (PyData.shownAll (d :: ds))) = tlS d.shown ++ (ds.flatMap fun e => 44 :: 32 :: tlS e.shown) := by
  induction ds with
  | nil => intro d; rw [PyData.shownAll_cons, PyData.shownAll_nil]; show tlS d.shown = _; simp
  | cons e r ih =>
    intro d
    rw [PyData.shownAll_cons, PyData.shownAll_cons]
    show tlS (d.shown ++ ", " ++ Str.join ", " (e.shown :: PyData.shownAll r)) = _
    rw [tlS_app, tlS_app, ← PyData.shownAll_cons, ih e, List.flatMap_cons]
    show tlS d.shown ++ [44, 32] ++ _ = _
    simp
theorem rest_cut {D : PyData → Prop} (c : Cut D) {b : Nat} (hb : b ≠ 44) : ∀ {ds es : List PyData} {x y : List Nat}, (∀ d ∈ ds, D d) → (∀ d ∈ es, D d) → (ds.flatMap fun e => 44 :: 32 :: tlS e.shown) ++ b :: x = (es.flatMap fun e => 44 :: 32 :: tlS e.shown) ++ b :: y → ds = es ∧ x = y
  | [], [], _, _, _, _, e => ⟨rfl, by injection e⟩
  | [], d :: es, _, _, _, _, e => by
    rw [List.flatMap_cons] at e
    injection e with e1 _
    exact absurd e1 hb
  | d :: ds, [], _, _, _, _, e => by
    rw [List.flatMap_cons] at e
    injection e with e1 _
    exact absurd e1.symm hb
  | d :: ds, d' :: es, x, y, h, h', e => by
    simp only [List.flatMap_cons, List.cons_append, List.append_assoc, List.cons.injEq, true_and] at e
    obtain ⟨a, e2⟩ := c d d' _ _ (h d List.mem_cons_self) (h' d' List.mem_cons_self) e
    obtain ⟨a2, b2⟩ := rest_cut c hb (fun q hq => h q (List.mem_cons_of_mem _ hq)) (fun q hq => h' q (List.mem_cons_of_mem _ hq)) e2
    exact ⟨by rw [a, a2], b2⟩
/-- what stands behind the head of a list: its end, or the rest -/
theorem seq_cut {D : PyData → Prop} (c : Cut D) (ne : ∀ d, D d → ∃ h t, tlS d.shown = h :: t ∧ h ≠ 93 ∧ h ≠ 41) {b : Nat} (hb : b = 93 ∨ b = 41) {ds es : List PyData} {x y : List Nat} (h : ∀ d ∈ ds, D d) (h' : ∀ d ∈ es, D d)
    (e : tlS (Str.join ", " (PyData.shownAll ds)) ++ b :: x = tlS (Str.join ", " (PyData.shownAll es)) ++ b :: y) : ds = es ∧ x = y := by
  have b44 : b ≠ 44 := by omega
  match ds, es with
  | [], [] =>
    rw [PyData.shownAll_nil] at e
    exact ⟨rfl, (List.cons.inj e).2⟩
  | [], d :: r =>
    rw [tl_join] at e
    obtain ⟨p, t, ep, n1, n2⟩ := ne d (h' d List.mem_cons_self)
    rw [ep] at e
    have z := (List.cons.inj e).1
    omega
  | d :: r, [] =>
    rw [tl_join] at e
    obtain ⟨p, t, ep, n1, n2⟩ := ne d (h d List.mem_cons_self)
    rw [ep] at e
    have z := (List.cons.inj e).1
    omega
  | d :: r, d' :: r' =>
    rw [tl_join, tl_join, List.append_assoc, List.append_assoc] at e
    obtain ⟨a, e2⟩ := c d d' _ _ (h d List.mem_cons_self) (h' d' List.mem_cons_self) e
    obtain ⟨a2, b2⟩ := rest_cut c b44 (fun q hq => h q (List.mem_cons_of_mem _ hq)) (fun q hq => h' q (List.mem_cons_of_mem _ hq)) e2
    exact ⟨by rw [a, a2], b2⟩
theorem tl_list (ds : List PyData) : tlS (PyData.list ds).shown = 91 :: (tlS (Str.join ", " (PyData.shownAll ds)) ++ [93]) := by
  rw [PyData.shown_list, tlS_app, tlS_app]
  show [91] ++ _ ++ [93] = _
  simp
/-- a list of such is such -/
theorem Cut.list {D : PyData → Prop} (c : Cut D) (ne : ∀ d, D d → ∃ h t, tlS d.shown = h :: t ∧ h ≠ 93 ∧ h ≠ 41) : Cut (fun d => ∃ ds, d = PyData.list ds ∧ ∀ x ∈ ds, D x) := by
  rintro _ _ x y ⟨ds, rfl, h⟩ ⟨es, rfl, h'⟩ e
  rw [tl_list, tl_list, List.cons_append, List.cons_append, List.append_assoc, List.append_assoc] at e
  obtain ⟨a, b⟩ := seq_cut c ne (.inl rfl) h h' (List.cons.inj e).2
  exact ⟨by rw [a], b⟩
theorem cut_str : Cut (fun d => ∃ z, d = PyData.str z ∧ Low z) := by
  rintro _ _ x y ⟨z, rfl, h⟩ ⟨z', rfl, h'⟩ e
  obtain ⟨a, b⟩ := str_cut h h' e
  exact ⟨by rw [a], b⟩
theorem ne_str : ∀ d, (∃ z, d = PyData.str z ∧ Low z) → ∃ h t, tlS d.shown = h :: t ∧ h ≠ 93 ∧ h ≠ 41 := by
  rintro _ ⟨z, rfl, h⟩
  rw [PyData.shown_str, tl_repr h]
  exact ⟨39, _, rfl, by decide, by decide⟩
theorem tl_list_ne (ds : List PyData) : ∃ h t, tlS (PyData.list ds).shown = h :: t ∧ h ≠ 93 ∧ h ≠ 41 := ⟨91, _, tl_list ds, by decide, by decide⟩
/-- lists of lower-case texts -/
def LsD (d : PyData) : Prop := ∃ ds, d = PyData.list ds ∧ ∀ x ∈ ds, ∃ z, x = PyData.str z ∧ Low z
theorem cut_ls : Cut LsD := cut_str.list ne_str
def RwD (d : PyData) : Prop := ∃ a l u, d = PyData.tuple [.str a, l, .str u] ∧ Low a ∧ LsD l ∧ Low u
theorem tl_three (a b c : PyData) : tlS (PyData.tuple [a, b, c]).shown = 40 :: (tlS a.shown ++ (44 :: 32 :: (tlS b.shown ++ (44 :: 32 :: (tlS c.shown ++ [41]))))) := by
  rw [PyData.shown_tuple, tlS_app, tlS_app, tl_join]
  show [40] ++ _ ++ [41] = _
  simp
theorem cut_rw : Cut RwD := by
  rintro _ _ x y ⟨a, l, u, rfl, h1, h2, h3⟩ ⟨a', l', u', rfl, g1, g2, g3⟩ e
  rw [tl_three, tl_three] at e
  simp only [List.cons_append, List.append_assoc, List.cons.injEq, true_and, List.nil_append] at e
  obtain ⟨e1, e⟩ := str_cut h1 g1 e
  simp only [List.cons.injEq, true_and] at e
  obtain ⟨e2, e⟩ := cut_ls _ _ _ _ h2 g2 e
  simp only [List.cons.injEq, true_and] at e
  obtain ⟨e3, e⟩ := str_cut h3 g3 e
  exact ⟨by rw [e1, e2, e3], (List.cons.inj e).2⟩
theorem ne_rw : ∀ d, RwD d → ∃ h t, tlS d.shown = h :: t ∧ h ≠ 93 ∧ h ≠ 41 := by
  rintro _ ⟨a, l, u, rfl, _⟩
  exact ⟨40, _, tl_three _ _ _, by decide, by decide⟩
theorem cut_rows : Cut (fun d => ∃ ds, d = PyData.list ds ∧ ∀ x ∈ ds, RwD x) := cut_rw.list ne_rw
theorem tl_digit {n : Int} (h0 : 0 ≤ n) (h4 : n ≤ 9) : tlS (PyData.int n).shown = [48 + n.toNat] := by
  rw [PyData.shown_int]
  have all : ∀ k : Fin 10, tlS ((toString ((k : Nat) : Int) : String) : Str) = [48 + (k : Nat)] := by decide +kernel
  have z := all ⟨n.toNat, by omega⟩
  have e : ((n.toNat : Nat) : Int) = n := by omega
  have z' : tlS ((toString ((n.toNat : Nat) : Int) : String) : Str) = [48 + n.toNat] := z
  rw [e] at z'
  exact z'
theorem tl_four (a b c d : PyData) : tlS (PyData.list [a, b, c, d]).shown = 91 :: (tlS a.shown ++ (44 :: 32 :: (tlS b.shown ++ (44 :: 32 :: (tlS c.shown ++ (44 :: 32 :: (tlS d.shown ++ [93]))))))) := by
  rw [tl_list, tl_join]
  simp
/-- the whole: rows, texts, a digit, texts -/
theorem four_inj {a b d a' b' d' : PyData} {n n' : Int} (h1 : ∃ ds, a = PyData.list ds ∧ ∀ x ∈ ds, RwD x) (g1 : ∃ ds, a' = PyData.list ds ∧ ∀ x ∈ ds, RwD x) (h2 : LsD b) (g2 : LsD b') (n0 : 0 ≤ n) (n9 : n ≤ 9) (m0 : 0 ≤ n') (m9 : n' ≤ 9) (h4 : LsD d) (g4 : LsD d')
    (e : (PyData.list [a, b, .int n, d]).shown = (PyData.list [a', b', .int n', d']).shown) : a = a' ∧ b = b' ∧ n = n' ∧ d = d' := by
  have e := congrArg tlS e
  rw [tl_four, tl_four, tl_digit n0 n9, tl_digit m0 m9] at e
  simp only [List.cons_append, List.nil_append, List.cons.injEq, true_and] at e
  obtain ⟨e1, e⟩ := cut_rows _ _ _ _ h1 g1 e
  simp only [List.cons.injEq, true_and] at e
  obtain ⟨e2, e⟩ := cut_ls _ _ _ _ h2 g2 e
  simp only [List.cons.injEq, true_and] at e
  obtain ⟨e3, e⟩ := e
  obtain ⟨e4, _⟩ := cut_ls _ _ _ _ h4 g4 e
  exact ⟨e1, e2, by omega, e4⟩
end Jg

namespace K08
open PySem PySem.Spec PyProof.Rows L2 Jg
local macro_rules | `(tactic| walk_at "rd1") => `(tactic| (first
  | refine ⟨_, rfl, ?_⟩
  | refine ⟨_, _, rfl, rfl, ?_⟩
  | refine ⟨_, _, rfl, ?_⟩
  | refine ⟨rfl, ?_⟩
  | (refine ⟨show (0 : Int) < _ by omega, ?_⟩)
  | (refine ⟨Or.inl ⟨by omega, by omega⟩, ?_⟩)
  | (refine ⟨Or.inr ⟨by omega, by omega⟩, ?_⟩)
  | (refine ⟨(⟨by decide, by decide, by decide⟩ : CPow _ _), ?_⟩)
  | refine Or.inl ⟨_, rfl, ?_⟩
  | refine Or.inr ⟨_, rfl, ?_⟩
  | fail "rd"))
local macro_rules | `(tactic| walk_at "rd") => `(tactic| repeat' walk_at "rd1")


/-! ### the text tells the contents -/
theorem sD_inj {a b : List Str} (h : sD a = sD b) : a = b := by
  have z := PyData.list.inj h
  exact List.map_inj_right (fun x y e => PyData.str.inj e) |>.mp z
theorem rowD_inj {x y : Str × List Str × Str} (h : PyData.tuple [.str x.1, sD x.2.1, .str x.2.2] = PyData.tuple [.str y.1, sD y.2.1, .str y.2.2]) : x = y := by
  have z := PyData.tuple.inj h
  simp only [List.cons.injEq, PyData.str.injEq, and_true] at z
  obtain ⟨a, b, c⟩ := z
  exact Prod.ext a (Prod.ext (sD_inj b) c)
theorem az_low {z : Str} (h : AZ z) : Low z := h
theorem wd_ls {ks : List Str} (h : ∀ k ∈ ks, Wd k) : LsD (sD ks) := ⟨ks.map PyData.str, rfl, fun x hx => by
  obtain ⟨k, hk, rfl⟩ := List.mem_map.mp hx
  exact ⟨k, rfl, az_low (h k hk).1⟩⟩
theorem ky_rows {d : Td} (ok : TdR d) : ∃ ds, PyData.list (((srtR d.rows).map fun r => (r.z, srtW r.ks, r.u)).map fun x => PyData.tuple [.str x.1, sD x.2.1, .str x.2.2]) = PyData.list ds ∧ ∀ x ∈ ds, RwD x := ⟨_, rfl, fun x hx => by
  rw [List.map_map] at hx
  obtain ⟨r, hr, rfl⟩ := List.mem_map.mp hx
  obtain ⟨w1, w2, w3⟩ := ok.rw_ r ((List.mergeSort_perm _ _).mem_iff.mp hr)
  exact ⟨r.z, sD (srtW r.ks), r.u, rfl, az_low w1.1, wd_ls fun k hk => w3.wd k (srtW_mem.mp hk), az_low w2.1⟩⟩
theorem ky_inj {d e : Td} (hd : TdR d) (he : TdR e) (h : (kyT d).shown = (kyT e).shown) : kyT d = kyT e := by
  have ld := hd.le
  have le := he.le
  obtain ⟨a, b, c, f⟩ := four_inj (ky_rows hd) (ky_rows he) (wd_ls fun k hk => hd.vo.wd k (srtW_mem.mp hk)) (wd_ls fun k hk => he.vo.wd k (srtW_mem.mp hk)) ld.1 (by omega) le.1 (by omega) (wd_ls fun k hk => (sgT_wd hd).wd k (srtW_mem.mp hk)) (wd_ls fun k hk => (sgT_wd he).wd k (srtW_mem.mp hk)) h
  unfold kyT kyD
  rw [a, b, c, f]
theorem ky_parts {c e : Ct} : kyC c = kyC e ↔ c.us.map tri = e.us.map tri ∧ c.vo = e.vo ∧ c.ne = e.ne ∧ c.si = e.si := by
  constructor
  · intro h
    have z := PyData.list.inj h
    simp only [List.cons.injEq, PyData.list.injEq, PyData.int.injEq, and_true] at z
    obtain ⟨a, b, c, f⟩ := z
    exact ⟨List.map_inj_right (fun x y e => rowD_inj e) |>.mp a, sD_inj b, c, sD_inj f⟩
  · rintro ⟨a, b, c, f⟩
    unfold kyC
    rw [a, b, c, f]
/-- two contents are equal just if the texts of what was told are -/
theorem ct_text {d e : Td} {c f : Ct} (hd : TdR d) (he : TdR e) (h1 : CtIs d c) (h2 : CtIs e f) : ctB c f = decide ((kyT d).shown = (kyT e).shown) := by
  rw [Bool.eq_iff_iff, decide_eq_true_iff]
  have k1 := ky_eq hd h1
  have k2 := ky_eq he h2
  constructor
  · intro h
    unfold ctB at h
    simp only [Bool.and_eq_true, decide_eq_true_eq] at h
    rw [← k1, ← k2, ky_parts.mpr ⟨h.1, h.2.1, h.2.2.1, h.2.2.2⟩]
  · intro h
    have z := ky_inj hd he h
    rw [← k1, ← k2] at z
    obtain ⟨a, b, c, f⟩ := ky_parts.mp z
    unfold ctB
    simp only [Bool.and_eq_true, decide_eq_true_eq]
    exact ⟨a, b, c, f⟩

end K08

namespace K08
open PySem PySem.Spec PyProof.Rows L2 Jg
local macro_rules | `(tactic| walk_at "rd1") => `(tactic| (first
  | refine ⟨_, rfl, ?_⟩
  | refine ⟨_, _, rfl, rfl, ?_⟩
  | refine ⟨_, _, rfl, ?_⟩
  | refine ⟨rfl, ?_⟩
  | (refine ⟨show (0 : Int) < _ by omega, ?_⟩)
  | (refine ⟨Or.inl ⟨by omega, by omega⟩, ?_⟩)
  | (refine ⟨Or.inr ⟨by omega, by omega⟩, ?_⟩)
  | (refine ⟨(⟨by decide, by decide, by decide⟩ : CPow _ _), ?_⟩)
  | refine Or.inl ⟨_, rfl, ?_⟩
  | refine Or.inr ⟨_, rfl, ?_⟩
  | fail "rd"))
local macro_rules | `(tactic| walk_at "rd") => `(tactic| repeat' walk_at "rd1")


/-! ### contents that were changed, and what is told of them: the same text -/
def F3 (r : Use) : Str × List Str × Str := (r.z, srtW r.ks, r.u)
def G3 (x : Str × List Str × Str) : Str × List Str × Str := (x.1, srtW x.2.1, x.2.2)
theorem srt_F3 (rows : List Use) : (srtR rows).map F3 = (rows.map F3).mergeSort fun x y => bef x.1 y.1 := PySem.W.sort_maps F3 fun a _ b _ => rfl
theorem key_map {d d' : Td} {f : Use → Str × List Str × Str} {h : Str × List Str × Str → Str × List Str × Str} (e : d'.rows.map tri = d.rows.map f) (hz : ∀ x, (h x).1 = x.1) (hf : ∀ r ∈ d.rows, h (F3 r) = G3 (f r)) : (srtR d'.rows).map F3 = ((srtR d.rows).map F3).map h := by
  have a1 : d'.rows.map F3 = (d.rows.map F3).map h := by
    have z1 : d'.rows.map F3 = (d'.rows.map tri).map G3 := by rw [List.map_map]; rfl
    rw [z1, e, List.map_map, List.map_map]
    exact List.map_congr_left fun r hr => (hf r hr).symm
  rw [srt_F3, a1, srt_F3]
  exact (PySem.W.sort_maps h fun a _ b _ => by rw [hz, hz]).symm
theorem less_srt (ls ks : List Str) : lessK ls (srtW ks) = srtW (lessK ls ks) :=
  srt_eq (pw_sorted ((sorted_pw (srtW_sorted ks)).sublist List.filter_sublist)) ((srtW_perm ks).filter _)
theorem tri_F3 {d : Td} {c : Ct} (ok : TdR d) (ci : CtIs d c) : c.us.map tri = (srtR d.rows).map F3 := ct_tri ok ci
theorem chg_key {d d' : Td} {c c' : Ct} {z u : Str} {ks : List Str} (ok : TdR d) (ci : CtIs d c) (ch : Chg c z ks u c') (e : d'.rows.map tri = d.rows.map (setF z ks u)) (e1 : d'.vo = d.vo) (e2 : d'.le = d.le) (e3 : sgT d' = sgT d) : kyC c' = kyT d' := by
  have km := key_map (h := fun x => if x.1 = z then (z, srtW ks, u) else x) e (fun x => by
    show (if x.1 = z then (z, srtW ks, u) else x).1 = x.1
    by_cases c0 : x.1 = z
    · rw [if_pos c0, c0]
    · rw [if_neg c0]) (fun r _ => by
    show (if r.z = z then (z, srtW ks, u) else F3 r) = G3 (if r.z = z then (z, ks, u) else tri r)
    by_cases c0 : r.z = z
    · rw [if_pos c0, if_pos c0]; rfl
    · rw [if_neg c0, if_neg c0]; rfl)
  have us : c'.us.map tri = (srtR d'.rows).map F3 := by
    rw [km, ← tri_F3 ok ci, ch.us, List.map_map]
    rfl
  unfold kyC kyT
  rw [us, ch.vo, ch.ne, ch.si, ci.vo, ci.ne, ci.si, e1, e2, e3]
  rfl
theorem rvd_key {d d' : Td} {c c' : Ct} {vks sks : List Str} {ne : Int} (ok : TdR d) (ci : CtIs d c) (ch : Rvd c vks ne sks c') (e : d'.rows.map tri = d.rows.map tri) (e1 : srtW d'.vo = srtW vks) (e2 : d'.le = ne) (e3 : srtW (sgT d') = srtW sks) : kyC c' = kyT d' := by
  have km := key_map (h := id) e (fun x => rfl) (fun r _ => rfl)
  have us : c'.us.map tri = (srtR d'.rows).map F3 := by rw [km, List.map_id, ← tri_F3 ok ci, ch.us]
  unfold kyC kyT
  rw [us, ch.vo, ch.ne, ch.si, e1, e2, e3]
  rfl
theorem wod_key {d d' : Td} {c c' : Ct} {ls : List Str} (ok : TdR d) (ci : CtIs d c) (ch : Wod c ls c') (e : d'.rows.map tri = d.rows.map fun r => (r.z, lessK ls r.ks, r.u)) (e1 : d'.vo = lessK ls d.vo) (e2 : d'.le = d.le) (e3 : sgT d' = lessK ls (sgT d)) : kyC c' = kyT d' := by
  have km := key_map (h := fun x => (x.1, lessK ls x.2.1, x.2.2)) e (fun x => rfl) (fun r _ => by
    show (r.z, lessK ls (srtW r.ks), r.u) = (r.z, srtW (lessK ls r.ks), r.u)
    rw [less_srt])
  have us : c'.us.map tri = (srtR d'.rows).map F3 := by
    rw [km, ← tri_F3 ok ci, ch.us, List.map_map]
    rfl
  unfold kyC kyT
  rw [us, ch.vo, ch.ne, ch.si, ci.vo, ci.ne, ci.si, e1, e2, e3, less_srt, less_srt]
  rfl
/-- a role's use in contents is what was told of it -/
theorem use_is {d : Td} {c : Ct} (ok : TdR d) (ci : CtIs d c) {q : Use} (hq : q ∈ d.rows) : ∃ r ∈ c.us, r.z = q.z ∧ r.u = q.u ∧ r.ks = srtW q.ks := by
  have m : F3 q ∈ c.us.map tri := by
    rw [tri_F3 ok ci]
    exact List.mem_map_of_mem ((List.mergeSort_perm d.rows _).mem_iff.mpr hq)
  obtain ⟨r, hr, e⟩ := List.mem_map.mp m
  exact ⟨r, hr, congrArg (·.1) e, congrArg (·.2.2) e, congrArg (·.2.1) e⟩

end K08

/-! methods with keyword-only parameters, called without positional ones -/
namespace Jg
open PySem PySem.Spec PyProof.Rows L2
def tMethK0 (C : Addr) (m : Str) (l : Nat) (sp : Sp) (gV : List V → List V → List V) (E : L2.St → XK) (ta : TE) (tk : TA) : TE := fun σ H Q => ta σ H fun x H1 => ∃ a dx fs, x = .ref a ∧ H1 a = some (.ins C dx fs) ∧ fs.lookup m = none ∧
  tk σ H1 fun zs H3 => zs.length = l ∧ sp (gV [.ref a] zs) H3 Q (E σ)
section
variable {X : Cx} {k j : Nat} {C : Addr} {x m : Str} {ks : List Str} {gV : List V → List V → List V} {sp : Sp} {W : WX} {p pos apos : Pos} {o : Expr} {kws : List Keyword} {ta : TE} {tk : TA}
/-- o.m(k = v, ..) -/
theorem pe_mK0S {pl : Sem Bool} (c : MetW X.prog X.w X.K X.mg X.base (L2.CX X.prog X.w) k C m 1 ks gV sp) (cl : Cls X.K C) (tak : Takes X W) (hr : Room j X.A) (hk : k ≤ j) (he : PE X o ta) (hkw : PK X kws tk)
    (hall : (backToKw pos (keywordEach kws X.env)).all (·.1.isSome) = true := by rfl) (hks : (backToKw pos (keywordEach kws X.env)).filterMap (·.1) = ks := by rfl)
    (hpl : ((backTo pos (starEach [] X.env)).any (·.1) || (backToKw pos (keywordEach kws X.env)).any (·.1.isNone)) = false := by rfl)
    (ht : eval (.Call (.Attribute o m apos) [] kws pos) X.env = (do
      let ov ← eval o X.env
      standAt apos.atName
      let (f, first) ← holding [ov] (getMethod ov m pl)
      callWith pos f first (backTo pos (starEach [] X.env)) (backToKw pos (keywordEach kws X.env))) := by rfl) :
    PE X (.Call (.Attribute o m apos) [] kws pos) (tMethK0 C m ks.length sp gV (WE W) ta tk) := by
  obtain ⟨f, fd, ps, g, F, at_, i, kp, b⟩ := c.ex
  refine ⟨fun pins s σ H Q I h => PySem.W.methodCall_KW (pl := pl) (thn (he.run pins s σ H _ I h) fun u s1 ⟨x, H1, I1, rx, a, dx, fs, ex, ea, l, q⟩ => ?_) ht⟩
  subst ex
  obtain rfl : u = Value.ref a := rx
  refine getmeth_ok I1 ea cl ⟨at_, i, kp⟩ l (PySem.W.callWith_KW0 (first := [.ref a]) (h₀ := X.base) I.ok.mod.kin kp hall ?_ hpl)
  refine thn (hkw.run pos pins s1 σ H1 _ I1 q) fun ws s3 ⟨zs, H3, I3, rz, l2, q3⟩ => ⟨I3.kIn, ?_⟩
  rw [hks]
  have r1 : Vals [V.ref a] [Value.ref a] := .cons rfl .nil
  have r2 := b.rel r1 rz
  have n2 : ws.length = ks.length := rz.length.symm.trans l2
  show wpAny _ _ (call (.ref f) [Value.ref a] (ks.zip ws)) _ _ _
  refine wpAny_call (codeAny_mono (F.run X.A X.stack s3 H3 ⟨[.ref a], ks.zip ws⟩ _ _ Q (WE W σ) (hr.mono hk) I3.env0 (b.to s3 _ ws I3.kIn rfl n2) r2 q3) fun r s' hq => ?_)
  match r, hq with
  | .error err, z => exact passAt tak σ pins _ _ err s' I3 z
  | .ok (.ret u), z => exact I3.after z
end
end Jg

namespace K08
open PySem PySem.Spec PyProof.Rows L2 Jg
local macro_rules | `(tactic| walk_at "rd1") => `(tactic| (first
  | refine ⟨_, rfl, ?_⟩
  | refine ⟨_, _, rfl, rfl, ?_⟩
  | refine ⟨_, _, rfl, ?_⟩
  | refine ⟨rfl, ?_⟩
  | (refine ⟨show (0 : Int) < _ by omega, ?_⟩)
  | (refine ⟨Or.inl ⟨by omega, by omega⟩, ?_⟩)
  | (refine ⟨Or.inr ⟨by omega, by omega⟩, ?_⟩)
  | (refine ⟨(⟨by decide, by decide, by decide⟩ : CPow _ _), ?_⟩)
  | refine Or.inl ⟨_, rfl, ?_⟩
  | refine Or.inr ⟨_, rfl, ?_⟩
  | fail "rd"))
local macro_rules | `(tactic| walk_at "rd") => `(tactic| repeat' walk_at "rd1")


/-! ### the methods as the law calls them -/
abbrev kws_CH : List (Str × V) := [("accepted", .non), ("used", .non)]
abbrev kws_RV : List (Str × V) := [("vouchers", .non), ("needed", .non), ("signers", .non)]
theorem len_chg {K : PySem.W.Frag} {C CI CU : Addr} : ∀ vs H Q E, spChg K C CI CU vs H Q E → vs.length = ["self", "role", "accepted", "used"].length := fun vs H Q E h => by
  obtain ⟨x, y, acc, use, c, S, rfl, _⟩ := h; rfl
theorem len_rvd {K : PySem.W.Frag} {C CI : Addr} : ∀ vs H Q E, spRvd K C CI vs H Q E → vs.length = ["self", "vouchers", "needed", "signers"].length := fun vs H Q E h => by
  obtain ⟨x, vv, nn, ss, c, S, rfl, _⟩ := h; rfl
section
variable {P : Program} {w : World} {K : PySem.W.Frag} {mg : Str → Option Value} {base : Heap} {C CI CU : Addr} (D : MthK K C "changed" "Contents.changed" s_Contents_changed kws_CH)
    (body : ∀ f, BodyX P w K mg base ["self", "role", "accepted", "used", "uses", "old_accepted", "old_used"] "Contents.changed" s_Contents_changed f 8 (spChg K C CI CU))
include D body
theorem metC2 : MetW P w K mg base (L2.CX P w) 9 C "changed" 2 ["accepted", "used"] (fun vs zs => vs ++ zs) (spChg K C CI CU) :=
  D.met sc_Contents_changed len_chg 2 [] (fun us mv ws => us ++ ws) (fun z => nomatch z) (fun q hq => nomatch hq) (fun r1 _ r3 => r1.append r3)
    (fun D doc pm an cdv ct us mv ws h1 h2 h3 => match us, mv, ws, h1, h2, h3 with | [_, _], [], [_, _], _, _, _ => rfl) body
theorem metC0 : MetW P w K mg base (L2.CX P w) 9 C "changed" 2 [] (fun vs zs => vs ++ zs ++ [.non, .non]) (spChg K C CI CU) :=
  D.met sc_Contents_changed len_chg 2 kws_CH (fun us mv ws => us ++ ws ++ mv) (fun z => nomatch z) (fun q hq => hq) (fun r1 r2 r3 => (r1.append r3).append r2)
    (fun D doc pm an cdv ct us mv ws h1 h2 h3 => match us, mv, ws, h1, h2, h3 with | [_, _], [_, _], [], _, _, _ => ⟨_, _, _, _, _, _, rfl, rfl, _, _, _, _, _, _, rfl, rfl, rfl⟩) body
theorem metCa : MetW P w K mg base (L2.CX P w) 9 C "changed" 2 ["accepted"] (fun vs zs => vs ++ zs ++ [.non]) (spChg K C CI CU) :=
  D.met sc_Contents_changed len_chg 2 [("used", .non)] (fun us mv ws => us ++ ws ++ mv) (fun z => nomatch z) (fun q hq => by
      rw [List.mem_singleton.mp hq]; exact List.mem_cons_of_mem _ List.mem_cons_self) (fun r1 r2 r3 => (r1.append r3).append r2)
    (fun D doc pm an cdv ct us mv ws h1 h2 h3 => match us, mv, ws, h1, h2, h3 with | [_, _], [_], [_], _, _, _ => ⟨_, _, _, _, _, _, rfl, rfl, rfl⟩) body
theorem metCu : MetW P w K mg base (L2.CX P w) 9 C "changed" 2 ["used"] (fun vs zs => vs ++ [.non] ++ zs) (spChg K C CI CU) :=
  D.met sc_Contents_changed len_chg 2 [("accepted", .non)] (fun us mv ws => us ++ mv ++ ws) (fun z => nomatch z) (fun q hq => by
      rw [List.mem_singleton.mp hq]; exact List.mem_cons_self) (fun r1 r2 r3 => (r1.append r2).append r3)
    (fun D doc pm an cdv ct us mv ws h1 h2 h3 => match us, mv, ws, h1, h2, h3 with | [_, _], [_], [_], _, _, _ => ⟨_, _, _, _, _, _, rfl, rfl, rfl⟩) body
end
/-- w among m, the middle one of three -/
def midL {α : Type} (us mv ws : List α) : List α := match mv with | [a, b] => us ++ [a] ++ ws ++ [b] | _ => us ++ mv ++ ws
theorem mid_rel {vs mz zs : List V} {us mv ws : List Value} (r1 : Vals vs us) (r2 : Vals mz mv) (r3 : Vals zs ws) : Vals (midL vs mz zs) (midL us mv ws) := by
  cases r2 with
  | nil => exact (r1.append .nil).append r3
  | cons a r =>
    cases r with
    | nil => exact (r1.append (.cons a .nil)).append r3
    | cons b r =>
      cases r with
      | nil => exact ((r1.append (.cons a .nil)).append r3).append (.cons b .nil)
      | cons c r => exact (r1.append (.cons a (.cons b (.cons c r)))).append r3
section
variable {P : Program} {w : World} {K : PySem.W.Frag} {mg : Str → Option Value} {base : Heap} {C CI CU : Addr} (D : MthK K C "revouched" "Contents.revouched" s_Contents_revouched kws_RV)
    (body : ∀ f, BodyX P w K mg base ["self", "vouchers", "needed", "signers"] "Contents.revouched" s_Contents_revouched f 8 (spRvd K C CI))
include D body
theorem metR0 : MetW P w K mg base (L2.CX P w) 9 C "revouched" 1 [] (fun vs zs => vs ++ zs ++ [.non, .non, .non]) (spRvd K C CI) :=
  D.met sc_Contents_revouched len_rvd 1 kws_RV (fun us mv ws => us ++ ws ++ mv) (fun z => nomatch z) (fun q hq => hq) (fun r1 r2 r3 => (r1.append r3).append r2)
    (fun D doc pm an cdv ct us mv ws h1 h2 h3 => match us, mv, ws, h1, h2, h3 with | [_], [_, _, _], [], _, _, _ => ⟨_, _, _, _, _, _, rfl, rfl, _, _, _, _, _, _, rfl, rfl, _, _, _, _, _, _, rfl, rfl, rfl⟩) body
theorem metRv : MetW P w K mg base (L2.CX P w) 9 C "revouched" 1 ["vouchers"] (fun vs zs => vs ++ zs ++ [.non, .non]) (spRvd K C CI) :=
  D.met sc_Contents_revouched len_rvd 1 [("needed", .non), ("signers", .non)] (fun us mv ws => us ++ ws ++ mv) (fun z => nomatch z) (fun q hq => List.mem_cons_of_mem _ hq) (fun r1 r2 r3 => (r1.append r3).append r2)
    (fun D doc pm an cdv ct us mv ws h1 h2 h3 => match us, mv, ws, h1, h2, h3 with | [_], [_, _], [_], _, _, _ => ⟨_, _, _, _, _, _, rfl, rfl, _, _, _, _, _, _, rfl, rfl, rfl⟩) body
theorem metRn : MetW P w K mg base (L2.CX P w) 9 C "revouched" 1 ["needed"] (fun vs zs => midL vs [.non, .non] zs) (spRvd K C CI) :=
  D.met sc_Contents_revouched len_rvd 1 [("vouchers", .non), ("signers", .non)] (fun us mv ws => midL us mv ws) (fun z => nomatch z) (fun q hq => by
      rcases List.mem_cons.mp hq with rfl | hq
      · exact List.mem_cons_self
      · rw [List.mem_singleton.mp hq]; exact List.mem_cons_of_mem _ (List.mem_cons_of_mem _ List.mem_cons_self)) mid_rel
    (fun D doc pm an cdv ct us mv ws h1 h2 h3 => match us, mv, ws, h1, h2, h3 with | [_], [_, _], [_], _, _, _ => ⟨_, _, _, _, _, _, rfl, rfl, _, _, _, _, _, _, rfl, rfl, rfl⟩) body
theorem metRs : MetW P w K mg base (L2.CX P w) 9 C "revouched" 1 ["signers"] (fun vs zs => vs ++ [.non, .non] ++ zs) (spRvd K C CI) :=
  D.met sc_Contents_revouched len_rvd 1 [("vouchers", .non), ("needed", .non)] (fun us mv ws => us ++ mv ++ ws) (fun z => nomatch z) (fun q hq => by
      rcases List.mem_cons.mp hq with rfl | hq
      · exact List.mem_cons_self
      · rw [List.mem_singleton.mp hq]; exact List.mem_cons_of_mem _ List.mem_cons_self) (fun r1 r2 r3 => (r1.append r2).append r3)
    (fun D doc pm an cdv ct us mv ws h1 h2 h3 => match us, mv, ws, h1, h2, h3 with | [_], [_, _], [_], _, _, _ => ⟨_, _, _, _, _, _, rfl, rfl, _, _, _, _, _, _, rfl, rfl, rfl⟩) body
theorem metRvn : MetW P w K mg base (L2.CX P w) 9 C "revouched" 1 ["vouchers", "needed"] (fun vs zs => vs ++ zs ++ [.non]) (spRvd K C CI) :=
  D.met sc_Contents_revouched len_rvd 1 [("signers", .non)] (fun us mv ws => us ++ ws ++ mv) (fun z => nomatch z) (fun q hq => by
      rw [List.mem_singleton.mp hq]; exact List.mem_cons_of_mem _ (List.mem_cons_of_mem _ List.mem_cons_self)) (fun r1 r2 r3 => (r1.append r3).append r2)
    (fun D doc pm an cdv ct us mv ws h1 h2 h3 => match us, mv, ws, h1, h2, h3 with | [_], [_], [_, _], _, _, _ => ⟨_, _, _, _, _, _, rfl, rfl, rfl⟩) body
theorem metRns : MetW P w K mg base (L2.CX P w) 9 C "revouched" 1 ["needed", "signers"] (fun vs zs => vs ++ [.non] ++ zs) (spRvd K C CI) :=
  D.met sc_Contents_revouched len_rvd 1 [("vouchers", .non)] (fun us mv ws => us ++ mv ++ ws) (fun z => nomatch z) (fun q hq => by
      rw [List.mem_singleton.mp hq]; exact List.mem_cons_self) (fun r1 r2 r3 => (r1.append r2).append r3)
    (fun D doc pm an cdv ct us mv ws h1 h2 h3 => match us, mv, ws, h1, h2, h3 with | [_], [_], [_, _], _, _, _ => ⟨_, _, _, _, _, _, rfl, rfl, rfl⟩) body
end

end K08

namespace K08
open PySem PySem.Spec PyProof.Rows L2 Jg
local macro_rules | `(tactic| walk_at "rd1") => `(tactic| (first
  | refine ⟨_, rfl, ?_⟩
  | refine ⟨_, _, rfl, rfl, ?_⟩
  | refine ⟨_, _, rfl, ?_⟩
  | refine ⟨rfl, ?_⟩
  | (refine ⟨show (0 : Int) < _ by omega, ?_⟩)
  | (refine ⟨Or.inl ⟨by omega, by omega⟩, ?_⟩)
  | (refine ⟨Or.inr ⟨by omega, by omega⟩, ?_⟩)
  | (refine ⟨(⟨by decide, by decide, by decide⟩ : CPow _ _), ?_⟩)
  | refine Or.inl ⟨_, rfl, ?_⟩
  | refine Or.inr ⟨_, rfl, ?_⟩
  | fail "rd"))
local macro_rules | `(tactic| walk_at "rd") => `(tactic| repeat' walk_at "rd1")


/-! ### texts whose signs are signs -/
def Fc (d : PyData) : Prop := ∀ c ∈ tlS d.shown, c < 0x110000
theorem Fc.ok {d : PyData} (h : Fc d) : okW d.shown := by
  show PyData.strOk _ = true
  unfold PyData.strOk
  exact Array.all_eq_true_iff_forall_mem.mpr fun c hc => decide_eq_true (h c (by unfold tlS; exact Array.mem_toList_iff.mpr hc))
theorem fc_str {z : Str} (h : Low z) : Fc (.str z) := fun c hc => by
  rw [PyData.shown_str, tl_repr h] at hc
  rcases List.mem_cons.mp hc with rfl | hc
  · decide
  rcases List.mem_append.mp hc with hc | hc
  · have := h c hc; omega
  · rw [List.mem_singleton.mp hc]; decide
theorem fc_join {ds : List PyData} (h : ∀ d ∈ ds, Fc d) : ∀ c ∈ tlS (Str.join ", " (PyData.shownAll ds)), c < 0x110000 := fun c hc => by
  cases ds with
  | nil => rw [PyData.shownAll_nil] at hc; cases hc
  | cons d r =>
    rw [tl_join] at hc
    rcases List.mem_append.mp hc with hc | hc
    · exact h d List.mem_cons_self c hc
    · obtain ⟨e, he, hc⟩ := List.mem_flatMap.mp hc
      rcases List.mem_cons.mp hc with rfl | hc
      · decide
      rcases List.mem_cons.mp hc with rfl | hc
      · decide
      · exact h e (List.mem_cons_of_mem _ he) c hc
theorem fc_list {ds : List PyData} (h : ∀ d ∈ ds, Fc d) : Fc (.list ds) := fun c hc => by
  rw [tl_list] at hc
  rcases List.mem_cons.mp hc with rfl | hc
  · decide
  rcases List.mem_append.mp hc with hc | hc
  · exact fc_join h c hc
  · rw [List.mem_singleton.mp hc]; decide
theorem fc_three {a b d : PyData} (ha : Fc a) (hb : Fc b) (hd : Fc d) : Fc (.tuple [a, b, d]) := fun c hc => by
  rw [tl_three] at hc
  simp only [List.mem_cons, List.mem_append, List.mem_nil_iff, or_false] at hc
  rcases hc with rfl | hc | rfl | rfl | hc | rfl | rfl | hc | rfl
  · decide
  · exact ha c hc
  · decide
  · decide
  · exact hb c hc
  · decide
  · decide
  · exact hd c hc
  · decide
theorem fc_int {i : Int} (h0 : 0 ≤ i) (h4 : i ≤ 4) : Fc (.int i) := by
  obtain ⟨n, rfl⟩ := Int.eq_ofNat_of_zero_le h0
  have : n = 0 ∨ n = 1 ∨ n = 2 ∨ n = 3 ∨ n = 4 := by omega
  rcases this with rfl | rfl | rfl | rfl | rfl <;> (unfold Fc; decide +kernel)
theorem fc_words {ks : List Str} (h : ∀ k ∈ ks, Wd k) : Fc (sD ks) := fc_list fun d hd => by
  obtain ⟨z, hz, rfl⟩ := List.mem_map.mp hd
  exact fc_str (az_low (h z hz).1)
theorem ky_ok {d : Td} (ok : TdR d) : okW (kyT d).shown := by
  refine Fc.ok ?_
  unfold kyT kyD
  refine fc_list fun x hx => ?_
  rcases List.mem_cons.mp hx with rfl | hx
  · refine fc_list fun x hx => ?_
    rw [List.map_map] at hx
    obtain ⟨r, hr, rfl⟩ := List.mem_map.mp hx
    obtain ⟨w1, w2, w3⟩ := ok.rw_ r ((List.mergeSort_perm _ _).mem_iff.mp hr)
    exact fc_three (fc_str (az_low w1.1)) (fc_words fun k hk => w3.wd k (srtW_mem.mp hk)) (fc_str (az_low w2.1))
  rcases List.mem_cons.mp hx with rfl | hx
  · exact fc_words fun k hk => ok.vo.wd k (srtW_mem.mp hk)
  rcases List.mem_cons.mp hx with rfl | hx
  · exact fc_int ok.le.1 ok.le.2
  rw [List.mem_singleton.mp hx]
  exact fc_words fun k hk => (sgT_wd ok).wd k (srtW_mem.mp hk)
/-! ### contents that were made, and their texts, while a stream's cell changes -/
structure One (p C : Addr) (H : Hp) (x : Addr) (d : Td) : Prop where
  ex : ∃ c, CAt (fun q => q ≠ p) C H x c ∧ CtOk c ∧ CtIs d c
  ok : TdR d
structure Fnd (p C : Addr) (H : Hp) (x : Addr) (k : PyData) : Prop where
  ex : ∃ c, CAt (fun q => q ≠ p) C H x c ∧ CtOk c ∧ kyC c = k
structure Due (H : Hp) (q : Addr) (k : PyData) : Prop where
  ex : ∃ d, TdAt H q d ∧ TdR d ∧ kyT d = k
theorem One.keep {p C x : Addr} {H H' : Hp} {d : Td} (h : One p C H x d) (s : SameB p H H') : One p C H' x d :=
  let ⟨⟨c, a, b⟩, ok⟩ := h
  ⟨⟨c, a.keep fun q o e n => s _ _ e n, b⟩, ok⟩
theorem Fnd.keep {p C x : Addr} {H H' : Hp} {k : PyData} (h : Fnd p C H x k) (s : SameB p H H') : Fnd p C H' x k :=
  let ⟨c, a, b⟩ := h.ex
  ⟨c, a.keep fun q o e n => s _ _ e n, b⟩
theorem Due.keep {p q : Addr} {H H' : Hp} {k : PyData} (h : Due H q k) (st : StA H p) (s : SameB p H H') : Due H' q k :=
  let ⟨d, a, b⟩ := h.ex
  ⟨d, a.keep st s, b⟩
theorem One.same {p C x : Addr} {H H' : Hp} {d : Td} (h : One p C H x d) (s : Same H H') : One p C H' x d := h.keep (SameB.of s)
theorem Fnd.same {p C x : Addr} {H H' : Hp} {k : PyData} (h : Fnd p C H x k) (s : Same H H') : Fnd p C H' x k := h.keep (SameB.of s)
theorem Due.same {q : Addr} {H H' : Hp} {k : PyData} (h : Due H q k) (s : Same H H') : Due H' q k :=
  let ⟨d, a, b⟩ := h.ex
  ⟨d, a.same s, b⟩
theorem cat_p {p C x : Addr} {H H' : Hp} {c : Ct} (st : StA H p) (h : CAt (fun q => H q = none) C H' x c) : CAt (fun q => q ≠ p) C H' x c := h.wider fun q n => st.ne n
theorem One.f {p C x : Addr} {H : Hp} {d : Td} (h : One p C H x d) : Fnd p C H x (kyT d) :=
  let ⟨⟨c, a, b, ci⟩, ok⟩ := h
  ⟨c, a, b, ky_eq ok ci⟩
theorem One.ins {p C x : Addr} {H : Hp} {d : Td} (h : One p C H x d) : ∃ dx a b n s, H x = some (.ins C dx (cflds a b n s)) :=
  let ⟨⟨_, ⟨⟨_, _, _, _, e, _⟩, _⟩, _⟩, _⟩ := h
  ⟨_, _, _, _, _, e⟩
theorem srtW_srtW (ks : List Str) : srtW (srtW ks) = srtW ks := srtW_congr (srtW_perm ks)
/-- what is given for a role's accepted keys -/
def AccV (H : Hp) (q : Use) (acc : V) (ks : List Str) : Prop := (acc = .non ∧ ks = q.ks) ∨ (∃ l b, acc = .ref l ∧ H l = some (seqO b ks) ∧ WdL ks 8)
def UseV (q : Use) (use : V) (u : Str) : Prop := (use = .non ∧ u = q.u) ∨ (use = .str u ∧ Wd u)
theorem use_chg {K : PySem.W.Frag} {p C CI CU x : Addr} {H : Hp} {d : Td} {q : Use} {acc use : V} {ks : List Str} {u : Str} {Q : VK} {E : XK} (st : StA H p) (h : One p C H x d) (hq : q ∈ d.rows) (ha : AccV H q acc ks) (hu : UseV q use u)
    (k : ∀ z H', (∀ d' : Td, d'.rows.map tri = d.rows.map (setF q.z ks u) → d'.vo = d.vo → d'.le = d.le → sgT d' = sgT d → Fnd p C H' z (kyT d')) → Same H H' → Q (.ref z) H') : spChg K C CI CU [.ref x, .str q.z, acc, use] H Q E := by
  obtain ⟨⟨c, a, b, ci⟩, ok⟩ := h
  obtain ⟨r, hr, e1, e2, e3⟩ := use_is ok ci hq
  refine ⟨x, _, acc, use, c, _, rfl, a, b, .inr ⟨r, hr, by rw [e1], .inl ?_⟩⟩
  obtain ⟨la, hla, hl⟩ : ∃ la, AccOk K H r acc la ∧ srtW la.ks = srtW ks := by
    rcases ha with ⟨rfl, rfl⟩ | ⟨l, b, rfl, el, w⟩
    · exact ⟨_, .inl ⟨rfl, rfl⟩, by rw [e3]; exact srtW_srtW _⟩
    · exact ⟨⟨l, b, ks⟩, .inr ⟨rfl, kl_of el w (by decide), w.keys, by rw [el]; exact fun z => nomatch z⟩, rfl⟩
  refine ⟨la, u, hla, ?_, fun z c' H' ca ok' ch s => k z H' (fun d' a1 a2 a3 a4 => ⟨c', cat_p st ca, ok', ?_⟩) s⟩
  · rcases hu with ⟨rfl, rfl⟩ | ⟨rfl, w⟩
    · exact .inl ⟨rfl, e2.symm⟩
    · exact .inr ⟨rfl, w.ok.2⟩
  · have ch2 : Chg c q.z ks u c' := ⟨by rw [ch.us, e1, hl], ch.vo, ch.ne, ch.si⟩
    exact chg_key ok ci ch2 a1 a2 a3 a4
/-- what is given for a list of vouchers -/
def LsV (H : Hp) (y : V) (old ks : List Str) : Prop := (y = .non ∧ ks = old) ∨ (∃ l, y = .ref l ∧ H l = some (.lst (ks.map V.str)) ∧ WdL ks 4)
theorem LsV.ok {K : PySem.W.Frag} {H : Hp} {y : V} {old ks : List Str} (h : LsV H y old ks) : ∃ ks', LstOk K H y (srtW old) ks' ∧ srtW ks' = srtW ks := by
  rcases h with ⟨rfl, rfl⟩ | ⟨l, rfl, el, w⟩
  · exact ⟨_, .inl ⟨rfl, rfl⟩, srtW_srtW _⟩
  · exact ⟨ks, .inr ⟨⟨l, true, ks⟩, rfl, rfl, kl_of el w (by decide), w.keys⟩, rfl⟩
theorem use_rvd {K : PySem.W.Frag} {p C CI x : Addr} {H : Hp} {d d' : Td} {vv nn ss : V} {Q : VK} {E : XK} (st : StA H p) (h : One p C H x d) (hv : LsV H vv d.vo d'.vo) (hn : (nn = .non ∧ d'.le = d.le) ∨ (nn = .int d'.le ∧ 0 ≤ d'.le ∧ d'.le ≤ 4)) (hs : LsV H ss (sgT d) (sgT d')) (e : d'.rows = d.rows)
    (k : ∀ z H', Fnd p C H' z (kyT d') → Same H H' → Q (.ref z) H') : spRvd K C CI [.ref x, vv, nn, ss] H Q E := by
  obtain ⟨⟨c, a, b, ci⟩, ok⟩ := h
  obtain ⟨v', v1, v2⟩ := hv.ok (K := K)
  obtain ⟨s', s1, s2⟩ := hs.ok (K := K)
  refine ⟨x, vv, nn, ss, c, _, rfl, a, b, .inl ⟨v', d'.le, s', by rw [ci.vo]; exact v1, by rw [ci.ne]; exact hn, by rw [ci.si]; exact s1, fun z c' H' ca ok' ch s => k z H' ⟨c', cat_p st ca, ok', rvd_key ok ci ch (by rw [e]) v2.symm rfl s2.symm⟩ s⟩⟩
theorem use_wo {K : PySem.W.Frag} {p C CK x l : Addr} {H : Hp} {d : Td} {ls : List Str} {Q : VK} {E : XK} (st : StA H p) (h : One p C H x d) (el : H l = some (.lst (ls.map V.str))) (few : ls.length ≤ 500) (w : ∀ z ∈ ls, Wd z)
    (k : ∀ z H', (∀ d' : Td, d'.rows.map tri = d.rows.map (fun r => (r.z, lessK ls r.ks, r.u)) → d'.vo = lessK ls d.vo → d'.le = d.le → sgT d' = lessK ls (sgT d) → Fnd p C H' z (kyT d')) → Same H H' → Q (.ref z) H') : spWo K C CK [.ref x, .ref l] H Q E := by
  obtain ⟨⟨c, a, b, ci⟩, ok⟩ := h
  exact ⟨x, _, c, _, rfl, a, b, .inr ⟨l, ls, rfl, el, few, fun z hz => (w z hz).ok.2, fun z c' H' ca ok' ch s => k z H' (fun d' a1 a2 a3 a4 => ⟨c', cat_p st ca, ok', wod_key ok ci ch a1 a2 a3 a4⟩) s⟩⟩
/-- told anew: with one role's use -/
theorem TdR.setF {d d' : Td} {z u : Str} {ks : List Str} (ok : TdR d) (w : WdL ks 8) (wu : Wd u) (e : d'.rows.map tri = d.rows.map (setF z ks u)) (e1 : d'.vo = d.vo) (e2 : d'.le = d.le) (e3 : sgT d' = sgT d) (e4 : d'.sg = some (sgT d)) : TdR d' := by
  have l := congrArg List.length e
  rw [List.length_map, List.length_map] at l
  have zs : d'.rows.map (·.z) = d.rows.map (·.z) := by
    have z1 := congrArg (List.map (·.1)) e
    rw [List.map_map, List.map_map] at z1
    refine Eq.trans z1 (List.map_congr_left fun r _ => ?_)
    show (K08.setF z ks u r).1 = r.z
    unfold K08.setF
    by_cases c : r.z = z
    · rw [if_pos c, c]
    · rw [if_neg c]; rfl
  refine ⟨by rw [l]; exact ok.n1, by rw [l]; exact ok.n3, by rw [zs]; exact ok.nd, fun r hr => ?_, by rw [e1]; exact ok.vo, by rw [e2]; exact ok.le, fun k2 h2 => by
    rw [e4] at h2
    cases h2
    exact sgT_wd ok⟩
  have m : tri r ∈ d.rows.map (K08.setF z ks u) := by rw [← e]; exact List.mem_map_of_mem hr
  obtain ⟨q, hq, eq⟩ := List.mem_map.mp m
  obtain ⟨w1, w2, w3⟩ := ok.rw_ q hq
  unfold K08.setF at eq
  by_cases c : q.z = z
  · rw [if_pos c] at eq
    injection eq with a1 a2
    injection a2 with a2 a3
    exact ⟨by rw [← a1, ← c]; exact w1, by rw [← a3]; exact wu, by rw [← a2]; exact w⟩
  · rw [if_neg c] at eq
    injection eq with a1 a2
    injection a2 with a2 a3
    exact ⟨by rw [← a1]; exact w1, by rw [← a3]; exact w2, by rw [← a2]; exact w3⟩
theorem WdL.less {ks : List Str} {m : Nat} (h : WdL ks m) (ls : List Str) : WdL (lessK ls ks) m := ⟨h.nd.sublist List.filter_sublist, Nat.le_trans (List.length_filter_le _ _) h.le, fun k hk => h.wd k (List.mem_filter.mp hk).1⟩
theorem TdR.lost {d d' : Td} {ls : List Str} (ok : TdR d) (e : d'.rows.map tri = d.rows.map fun r => (r.z, lessK ls r.ks, r.u)) (e1 : d'.vo = lessK ls d.vo) (e2 : d'.le = d.le) (e4 : d'.sg = some (lessK ls (sgT d))) : TdR d' := by
  have l := congrArg List.length e
  rw [List.length_map, List.length_map] at l
  have zs : d'.rows.map (·.z) = d.rows.map (·.z) := by
    have z1 := congrArg (List.map (·.1)) e
    rw [List.map_map, List.map_map] at z1
    exact z1
  refine ⟨by rw [l]; exact ok.n1, by rw [l]; exact ok.n3, by rw [zs]; exact ok.nd, fun r hr => ?_, by rw [e1]; exact ok.vo.less _, by rw [e2]; exact ok.le, fun k2 h2 => by
    rw [e4] at h2
    cases h2
    exact (sgT_wd ok).less _⟩
  have m : tri r ∈ d.rows.map fun r => (r.z, lessK ls r.ks, r.u) := by rw [← e]; exact List.mem_map_of_mem hr
  obtain ⟨q, hq, eq⟩ := List.mem_map.mp m
  obtain ⟨w1, w2, w3⟩ := ok.rw_ q hq
  injection eq with a1 a2
  injection a2 with a2 a3
  exact ⟨by rw [← a1]; exact w1, by rw [← a3]; exact w2, by rw [← a2]; exact w3.less _⟩
theorem setF_id {d : Td} {q : Use} (ok : TdR d) (hq : q ∈ d.rows) : d.rows.map (setF q.z q.ks q.u) = d.rows.map tri := List.map_congr_left fun r hr => by
  unfold setF
  by_cases c : r.z = q.z
  · rw [if_pos c]
    have e : r = q := by
      have nd := ok.nd
      clear ok
      revert hq hr nd
      generalize d.rows = L
      induction L with
      | nil => intro a _; cases a
      | cons a t ih =>
        intro h1 h2 nd
        rw [List.map_cons, List.nodup_cons] at nd
        rcases List.mem_cons.mp h1 with g1 | g1 <;> rcases List.mem_cons.mp h2 with g2 | g2
        · rw [g1, g2]
        · exact absurd (List.mem_map.mpr ⟨r, g2, by rw [c, g1]⟩) nd.1
        · exact absurd (List.mem_map.mpr ⟨q, g1, by rw [← c, g2]⟩) nd.1
        · exact ih g1 g2 nd.2
    rw [e]; rfl
  · rw [if_neg c]
theorem lessK_twice (ls ks : List Str) : lessK (ls ++ ls) ks = lessK ls ks := by
  unfold lessK
  congr 1
  funext k
  have e : decide (k ∈ ls ++ ls) = decide (k ∈ ls) := decide_eq_decide.mpr (by simp)
  rw [e]
theorem if_noneG {te tf : TE} {σ : L2.St} {a b : V} {H : Hp} {Q : VK} (h1 : ∀ Q : VK, Q b H → te σ H Q) (h2 : ∀ Q : VK, Q a H → tf σ H Q) (q : Q (if a = .non then b else a) H) : if decide (a = V.non) = true then te σ H Q else tf σ H Q := by
  by_cases c : a = .non
  · rw [if_pos c] at q
    exact iteTe (decide_eq_true c) (h1 _ q)
  · rw [if_neg c] at q
    exact iteFe (decide_eq_false c) (h2 _ q)

end K08

namespace K08
open PySem PySem.Spec PyProof.Rows L2 Jg
local macro_rules | `(tactic| walk_at "rd1") => `(tactic| (first
  | refine ⟨_, rfl, ?_⟩
  | refine ⟨_, _, rfl, rfl, ?_⟩
  | refine ⟨_, _, rfl, ?_⟩
  | refine ⟨rfl, ?_⟩
  | (refine ⟨show (0 : Int) < _ by omega, ?_⟩)
  | (refine ⟨Or.inl ⟨by omega, by omega⟩, ?_⟩)
  | (refine ⟨Or.inr ⟨by omega, by omega⟩, ?_⟩)
  | (refine ⟨(⟨by decide, by decide, by decide⟩ : CPow _ _), ?_⟩)
  | refine Or.inl ⟨_, rfl, ?_⟩
  | refine Or.inr ⟨_, rfl, ?_⟩
  | fail "rd"))
local macro_rules | `(tactic| walk_at "rd") => `(tactic| repeat' walk_at "rd1")


@[irreducible] def spWoI (K : PySem.W.Frag) (C CK : Addr) : Sp := spWo K C CK
theorem use_woI {K : PySem.W.Frag} {p C CK x l : Addr} {H : Hp} {d : Td} {ls : List Str} {Q : VK} {E : XK} (st : StA H p) (h : One p C H x d) (el : H l = some (.lst (ls.map V.str))) (few : ls.length ≤ 500) (w : ∀ z ∈ ls, Wd z)
    (k : ∀ z H', (∀ d' : Td, d'.rows.map tri = d.rows.map (fun r => (r.z, lessK ls r.ks, r.u)) → d'.vo = lessK ls d.vo → d'.le = d.le → sgT d' = lessK ls (sgT d) → Fnd p C H' z (kyT d')) → Same H H' → Q (.ref z) H') : spWoI K C CK [.ref x, .ref l] H Q E := by
  unfold spWoI
  exact use_wo st h el few w k
structure Cri (p C q l2 l3 : Addr) (d : Td) (keys hands : List Str) (H0 : Hp) (x la lw hv : Addr) (r : Use) (u : Str) (us vo : List Str) (H : Hp) : Prop where
  st : StA H p
  o : One p C H x d
  td : TdAt H q d
  rr : TRow H r
  l2 : H l2 = some (.lst (keys.map V.str))
  l3 : H l3 = some (.lst (hands.map V.str))
  la : H la = some (.lst (us.map V.str))
  lw : H lw = some (.lst (vo.map V.str))
  hv : H hv = some (.lst ((sgT d).map V.str))
  sb : SameB p H0 H
  hr : r ∈ d.rows
  wus : WdL us 8
  wvo : WdL vo 4
  wu : Wd u
section
variable {p C q l2 l3 : Addr} {d : Td} {keys hands : List Str} {H0 : Hp} {x la lw hv : Addr} {r : Use} {u : Str} {us vo : List Str} {H H' : Hp}
theorem Cri.same (h : Cri p C q l2 l3 d keys hands H0 x la lw hv r u us vo H) (s : Same H H') : Cri p C q l2 l3 d keys hands H0 x la lw hv r u us vo H' :=
  ⟨h.st.keep s, h.o.same s, h.td.same s, ⟨s _ _ h.rr.tp, s _ _ h.rr.ls⟩, s _ _ h.l2, s _ _ h.l3, s _ _ h.la, s _ _ h.lw, s _ _ h.hv, h.sb.trans (SameB.of s), h.hr, h.wus, h.wvo, h.wu⟩
theorem Cri.keep (h : Cri p C q l2 l3 d keys hands H0 x la lw hv r u us vo H) (s : SameB p H H') (st' : StA H' p) : Cri p C q l2 l3 d keys hands H0 x la lw hv r u us vo H' :=
  ⟨st', h.o.keep s, h.td.keep h.st s, h.rr.keep h.st s, s _ _ h.l2 (h.st.neS h.l2), s _ _ h.l3 (h.st.neS h.l3), s _ _ h.la (h.st.neS h.la), s _ _ h.lw (h.st.neS h.lw), s _ _ h.hv (h.st.neS h.hv), h.sb.trans s, h.hr, h.wus, h.wvo, h.wu⟩
end
/-- the slots -/
def sgC (p q l2 l3 hv x la lw : Addr) (r : Use) (u : Str) (v5 v6 v7 : Option V) : L2.St := [some (.ref p), some (.ref q), some (.ref l2), some (.ref l3), some (.ref hv), v5, v6, v7, some (.ref x), some (.ref r.t), some (.ref la), some (.str u), some (.ref lw), none]
inductive FL (p C : Addr) (H : Hp) : List Addr → List PyData → Prop
  | nil : FL p C H [] []
  | cons {x : Addr} {k : PyData} {xs : List Addr} {ks : List PyData} : Fnd p C H x k → FL p C H xs ks → FL p C H (x :: xs) (k :: ks)
theorem FL.keep {p C : Addr} {H H' : Hp} (s : SameB p H H') : ∀ {xs : List Addr} {ks : List PyData}, FL p C H xs ks → FL p C H' xs ks
  | _, _, .nil => .nil
  | _, _, .cons a r => .cons (a.keep s) (r.keep s)
theorem FL.app {p C : Addr} {H : Hp} : ∀ {xs ys : List Addr} {ks ls : List PyData}, FL p C H xs ks → FL p C H ys ls → FL p C H (xs ++ ys) (ks ++ ls)
  | _, _, _, _, .nil, h => h
  | _, _, _, _, .cons a r, h => .cons a (r.app h)
theorem FL.at_ {p C : Addr} {H : Hp} : ∀ {xs : List Addr} {ks : List PyData} {i : Nat} {x : Addr}, FL p C H xs ks → xs[i]? = some x → ∃ k, ks[i]? = some k ∧ Fnd p C H x k
  | _, _, i, _, .nil, h => by simp at h
  | _, _, 0, _, .cons a _, h => by cases Option.some.inj h; exact ⟨_, rfl, a⟩
  | _, _, i + 1, _, .cons _ r, h => let ⟨k, a, b⟩ := r.at_ (i := i) (by simpa using h); ⟨k, by simpa using a, b⟩
theorem FL.len {p C : Addr} {H : Hp} : ∀ {xs : List Addr} {ks : List PyData}, FL p C H xs ks → xs.length = ks.length
  | _, _, .nil => rfl
  | _, _, .cons _ r => by rw [List.length_cons, List.length_cons, r.len]
inductive DL (H : Hp) : List Addr → List PyData → Prop
  | nil : DL H [] []
  | cons {x : Addr} {k : PyData} {xs : List Addr} {ks : List PyData} : Due H x k → DL H xs ks → DL H (x :: xs) (k :: ks)
theorem DL.keep {p : Addr} {H H' : Hp} (st : StA H p) (s : SameB p H H') : ∀ {xs : List Addr} {ks : List PyData}, DL H xs ks → DL H' xs ks
  | _, _, .nil => .nil
  | _, _, .cons a r => .cons (a.keep st s) (r.keep st s)
theorem DL.same {H H' : Hp} (s : Same H H') : ∀ {xs : List Addr} {ks : List PyData}, DL H xs ks → DL H' xs ks
  | _, _, .nil => .nil
  | _, _, .cons a r => .cons (a.same s) (r.same s)
theorem DL.app {H : Hp} : ∀ {xs ys : List Addr} {ks ls : List PyData}, DL H xs ks → DL H ys ls → DL H (xs ++ ys) (ks ++ ls)
  | _, _, _, _, .nil, h => h
  | _, _, _, _, .cons a r, h => .cons a (r.app h)
theorem DL.at_ {H : Hp} : ∀ {xs : List Addr} {ks : List PyData} {i : Nat} {x : Addr}, DL H xs ks → xs[i]? = some x → ∃ k, ks[i]? = some k ∧ Due H x k
  | _, _, i, _, .nil, h => by simp at h
  | _, _, 0, _, .cons a _, h => by cases Option.some.inj h; exact ⟨_, rfl, a⟩
  | _, _, i + 1, _, .cons _ r, h => let ⟨k, a, b⟩ := r.at_ (i := i) (by simpa using h); ⟨k, by simpa using a, b⟩
theorem DL.len {H : Hp} : ∀ {xs : List Addr} {ks : List PyData}, DL H xs ks → xs.length = ks.length
  | _, _, .nil => rfl
  | _, _, .cons _ r => by rw [List.length_cons, List.length_cons, r.len]
theorem DL.ok {H : Hp} : ∀ {xs : List Addr} {ks : List PyData}, DL H xs ks → ∀ k ∈ ks, okW k.shown ∧ ShnD k
  | _, _, .nil, _, h => nomatch h
  | _, _, .cons a r, k, h => (List.mem_cons.mp h).elim (fun e => by obtain ⟨d, _, ok, rfl⟩ := a.ex; rw [e]; exact ⟨ky_ok ok, shn_ky ok⟩) (r.ok k)
theorem ref_at {xs : List Addr} {i : Nat} {v : V} (h : (xs.map V.ref)[i]? = some v) : ∃ x, xs[i]? = some x ∧ v = .ref x := by
  rw [List.getElem?_map] at h
  cases c : xs[i]? with
  | none => rw [c] at h; cases h
  | some x => rw [c] at h; exact ⟨x, rfl, (Option.some.inj h).symm⟩
section
variable {P : Program} {w : World} {K : PySem.W.Frag} {mg : Str → Option Value} {base : Heap} {C CI CU CK : Addr}
theorem ok_wo (D : MetK K C "without" "Contents.without" s_Contents_without) (T : Txt K mg) (J : CTx K mg C) (M_Contents : MakN P w K mg base (L2.CX P w) 7 "Contents" C 2 ["needed", "signers"] (fun vs zs => vs ++ zs) (spCInit P w K C CI)) (G_InvalidKeys : ExnB P w K mg base 1 "InvalidKeys" CK (spX CK "value")) (G_is_key_list : Cal P w K mg base CX0 2 "is_key_list" (spKList K)) (G_remaining : Cal P w K mg base CX0 1 "_remaining" (spRem K)) : Met P w K mg base (L2.CX P w) 9 C "without" (spWo K C CK) := by
  refine D.metX sc_Contents_without (fun _ _ _ _ _ _ us hl => match us, hl with | [_, _], _ => rfl) (fun vs H Q E h => ?_) fun f cdv A outer s H vs Q E hr h => body_wo T J M_Contents G_InvalidKeys G_is_key_list G_remaining f cdv A outer s H vs Q E hr h
  obtain ⟨x, y, c, S, rfl, _⟩ := h; rfl
def spCri : Sp := fun vs H Q _ => ∃ (p q l2 l3 : Addr) (d : Td) (parts keys hands : List Str), vs = [.ref p, .ref q, .ref l2, .ref l3] ∧ StA H p ∧ TdAt H q d ∧ TdG parts keys hands d ∧ Ww parts keys hands ∧ H l2 = some (.lst (keys.map V.str)) ∧ H l3 = some (.lst (hands.map V.str)) ∧
  ∀ H', StA H' p → SameB p H H' → Q (.bl true) H'
abbrev s_law_changed_right : Stmt := top 38
theorem sc_law_changed_right : FnScope ["stream", "told", "keys", "hands", "old", "found", "due", "lost", "one", "row", "likes", "own", "vouch", "other"] ["stream", "told", "keys", "hands"] (defScope s_law_changed_right) := ⟨rfl, rfl, rfl, by decide +kernel, rfl, by decide +kernel, by decide +kernel⟩
theorem ok_cri (D : DefK K mg "_law_changed_right" s_law_changed_right) (T : Txt K mg) (J : CTx K mg C) (M_Ca : MetW P w K mg base (L2.CX P w) 9 C "changed" 2 ["accepted"] (fun vs zs => vs ++ zs ++ [.non]) (spChg K C CI CU)) (M_Cu : MetW P w K mg base (L2.CX P w) 9 C "changed" 2 ["used"] (fun vs zs => vs ++ [.non] ++ zs) (spChg K C CI CU)) (M_C0 : MetW P w K mg base (L2.CX P w) 9 C "changed" 2 [] (fun vs zs => vs ++ zs ++ [.non, .non]) (spChg K C CI CU)) (M_C2 : MetW P w K mg base (L2.CX P w) 9 C "changed" 2 ["accepted", "used"] (fun vs zs => vs ++ zs) (spChg K C CI CU))
    (M_Rv : MetW P w K mg base (L2.CX P w) 9 C "revouched" 1 ["vouchers"] (fun vs zs => vs ++ zs ++ [.non, .non]) (spRvd K C CI)) (M_Rn : MetW P w K mg base (L2.CX P w) 9 C "revouched" 1 ["needed"] (fun vs zs => midL vs [.non, .non] zs) (spRvd K C CI)) (M_Rs : MetW P w K mg base (L2.CX P w) 9 C "revouched" 1 ["signers"] (fun vs zs => vs ++ [.non, .non] ++ zs) (spRvd K C CI)) (M_R0 : MetW P w K mg base (L2.CX P w) 9 C "revouched" 1 [] (fun vs zs => vs ++ zs ++ [.non, .non, .non]) (spRvd K C CI)) (M_wo : Met P w K mg base (L2.CX P w) 9 C "without" (spWoI K C CK))
    (G_law_contents : Cal P w K mg base CX0 9 "_law_contents" (spCon C)) (G_law_choose : Cal P w K mg base CX0 2 "_law_choose" (spCh K)) (G_law_some : Cal P w K mg base CX0 2 "_law_some" (spSome K)) (G_law_with : Cal P w K mg base CX0 1 "_law_with" spWith) (G_law_less : Cal P w K mg base CX0 1 "_law_less" spLess) (G_law_seen : CalG P w K mg base CX0 5 "_law_seen" (spSeen K C)) (G_law_key : CalG P w K mg base CX0 1 "_law_key" (spKey K)) : CalG P w K mg base CX0 10 "_law_changed_right" spCri := by
  refine D.calG sc_law_changed_right (fun _ _ _ _ _ _ us hl => match us, hl with | [_, _, _, _], _ => rfl) (fun vs H Q E h => ?_) fun f cdv A outer s H vs Q E g hr h => ?_
  · obtain ⟨p, q, l2, l3, d, parts, keys, hands, rfl, _⟩ := h; rfl
  · obtain ⟨p, q, l2, l3, d, parts, keys, hands, rfl, st, td, tg, ww, el2, el3, kQ⟩ := h
    have hu : (A.deeper (envOfC "_law_changed_right" (defScope s_law_changed_right) s.heap.objs.size f cdv)).units + 64 < cLine := hr.units
    refine ⟨_, (pss_cons (ps_par (i := 8) (j := 9) (by rfl) sc_law_changed_right.nd rfl rfl (by decide) rfl rfl (pa_cons (pe_c G_law_contents hr (by decide) rfl (pa_cons (pv 1) pa_nil)) (pa_cons (pe_c G_law_choose hr (by decide) rfl (pa_cons (pv 0) (pa_cons (pe_ix (r := rIxT K) ix_tup (pv 1) pe_int (fun _ _ => rfl)) pa_nil))) pa_nil)) (by rfl))
      (C8.pss_cut (ps_par3 (i := 10) (j := 11) (l := 12) (by rfl) sc_law_changed_right.nd rfl rfl rfl (by decide) (by decide) (by decide) rfl rfl rfl (pa_cons (pe_c G_law_some hr (by decide) rfl (pa_cons (pv 0) (pa_cons (pv 2) pa_nil))) (pa_cons (pe_c G_law_choose hr (by decide) rfl (pa_cons (pv 0) (pa_cons (pv 2) pa_nil))) (pa_cons (pe_c G_law_some hr (by decide) rfl (pa_cons (pv 0) (pa_cons (pv 3) pa_nil))) pa_nil))) (by rfl))
      (C8.pss_cut (ps_set (i := 4) sc_law_changed_right.nd rfl (Or.inl rfl) (pe_ifExp (pt_cmpR op_isN (pe_ix (r := rIxT K) ix_tup (pv 1) pe_int (fun _ _ => rfl)) pe_non (nomark _)) (pe_ix (r := rIxT K) ix_tup (pv 1) pe_int (fun _ _ => rfl)) (pe_ix (r := rIxT K) ix_tup (pv 1) pe_int (fun _ _ => rfl))))
      (C8.pss_cut (ps_set (i := 5) sc_law_changed_right.nd rfl (Or.inl rfl) (pe_lst (pa_cons (pe_mKS M_Ca J.cl takes0 hr (by decide) (pv 8) (pa_cons (pe_ix (r := rIxT K) ix_tup (pv 9) pe_int (fun _ _ => rfl)) pa_nil) (pk_cons (pv 10) pk_nil)) (pa_cons (pe_mKS M_Cu J.cl takes0 hr (by decide) (pv 8) (pa_cons (pe_ix (r := rIxT K) ix_tup (pv 9) pe_int (fun _ _ => rfl)) pa_nil) (pk_cons (pv 11) pk_nil)) (pa_cons (pe_mKS M_C0 J.cl takes0 hr (by decide) (pv 8) (pa_cons (pe_ix (r := rIxT K) ix_tup (pv 9) pe_int (fun _ _ => rfl)) pa_nil) pk_nil) pa_nil)))))
      (C8.pss_cut (ps_set (i := 6) sc_law_changed_right.nd rfl (Or.inl rfl) (pe_lst (pa_cons (pe_c G_law_with hr (by decide) rfl (pa_cons (pv 1) (pa_cons (pe_ix (r := rIxT K) ix_tup (pv 9) pe_int (fun _ _ => rfl)) (pa_cons (pv 10) (pa_cons (pe_ix (r := rIxT K) ix_tup (pv 9) pe_int (fun _ _ => rfl)) pa_nil))))) (pa_cons (pe_c G_law_with hr (by decide) rfl (pa_cons (pv 1) (pa_cons (pe_ix (r := rIxT K) ix_tup (pv 9) pe_int (fun _ _ => rfl)) (pa_cons (pe_ix (r := rIxT K) ix_tup (pv 9) pe_int (fun _ _ => rfl)) (pa_cons (pv 11) pa_nil))))) (pa_cons (pv 1) pa_nil)))))
      (C8.pss_cut (ps_set (i := 5) sc_law_changed_right.nd rfl (Or.inl rfl) (pe_op op_cat (pv 5) (pe_lst (pa_cons (pe_mKS M_C2 J.cl takes0 hr (by decide) (pv 8) (pa_cons (pe_ix (r := rIxT K) ix_tup (pv 9) pe_int (fun _ _ => rfl)) pa_nil) (pk_cons (pe_callTy call_tuple_of (by rfl) T.b_tuple (by decide +kernel) (pa_cons (pv 10) pa_nil)) (pk_cons (pv 11) pk_nil))) (pa_cons (pe_mK0S M_Rv J.cl takes0 hr (by decide) (pv 8) (pk_cons (pv 12) pk_nil)) pa_nil)))))
      (C8.pss_cut (ps_set (i := 6) sc_law_changed_right.nd rfl (Or.inl rfl) (pe_op op_cat (pv 6) (pe_lst (pa_cons (pe_c G_law_with hr (by decide) rfl (pa_cons (pv 1) (pa_cons (pe_ix (r := rIxT K) ix_tup (pv 9) pe_int (fun _ _ => rfl)) (pa_cons (pv 10) (pa_cons (pv 11) pa_nil))))) (pa_cons (pe_tup (pa_cons (pe_ix (r := rIxT K) ix_tup (pv 1) pe_int (fun _ _ => rfl)) (pa_cons (pv 12) (pa_cons (pe_ix (r := rIxT K) ix_tup (pv 1) pe_int (fun _ _ => rfl)) (pa_cons (pv 4) pa_nil))))) pa_nil)))))
      (C8.pss_cut (ps_set (i := 5) sc_law_changed_right.nd rfl (Or.inl rfl) (pe_op op_cat (pv 5) (pe_lst (pa_cons (pe_mK0S M_Rn J.cl takes0 hr (by decide) (pv 8) (pk_cons pe_int pk_nil)) (pa_cons (pe_mK0S M_Rs J.cl takes0 hr (by decide) (pv 8) (pk_cons (pv 12) pk_nil)) (pa_cons (pe_mK0S M_R0 J.cl takes0 hr (by decide) (pv 8) pk_nil) pa_nil))))))
      (C8.pss_cut (ps_set (i := 6) sc_law_changed_right.nd rfl (Or.inl rfl) (pe_op op_cat (pv 6) (pe_lst (pa_cons (pe_tup (pa_cons (pe_ix (r := rIxT K) ix_tup (pv 1) pe_int (fun _ _ => rfl)) (pa_cons (pe_ix (r := rIxT K) ix_tup (pv 1) pe_int (fun _ _ => rfl)) (pa_cons pe_int (pa_cons (pv 4) pa_nil))))) (pa_cons (pe_tup (pa_cons (pe_ix (r := rIxT K) ix_tup (pv 1) pe_int (fun _ _ => rfl)) (pa_cons (pe_ix (r := rIxT K) ix_tup (pv 1) pe_int (fun _ _ => rfl)) (pa_cons (pe_ix (r := rIxT K) ix_tup (pv 1) pe_int (fun _ _ => rfl)) (pa_cons (pv 12) pa_nil))))) (pa_cons (pv 1) pa_nil))))))
      (C8.pss_cut (ps_set (i := 7) sc_law_changed_right.nd rfl (Or.inl rfl) (pe_c G_law_some hr (by decide) rfl (pa_cons (pv 0) (pa_cons (pe_op op_cat (pv 2) (pv 3)) pa_nil))))
      (C8.pss_cut (ps_par (i := 5) (j := 6) (by rfl) sc_law_changed_right.nd rfl rfl (by decide) rfl rfl (pa_cons (pe_op op_cat (pv 5) (pe_lst (pa_cons (pe_mS M_wo J.cl takes0 hr (by decide) (pv 8) (pa_cons (pv 7) pa_nil)) (pa_cons (pe_mS M_wo J.cl takes0 hr (by decide) (pv 8) (pa_cons (pe_op op_cat (pv 7) (pv 7)) pa_nil)) pa_nil)))) (pa_cons (pe_op op_cat (pv 6) (pe_op op_rep (pe_lst (pa_cons (pe_c G_law_less hr (by decide) rfl (pa_cons (pv 1) (pa_cons (pv 7) pa_nil))) pa_nil)) pe_int)) pa_nil)) (by rfl))
      (pss_cons (ps_if (pt_cmpR (op_neD hu) (pe_lc (own := [("other", 13)]) (g := gName 13) (by rfl) sc_law_changed_right.nd (pi_list (pv 5)) (blkOk_by (own := [("other", 13)]) (N := ["stream", "told", "keys", "hands", "old", "found", "due", "lost", "one", "row", "likes", "own", "vouch", "other"]) (sc := defScope s_law_changed_right) (by decide +kernel)) (fun _ _ _ _ _ => pg_name (i := 13) sc_law_changed_right.nd rfl (Or.inl rfl)) (fun _ _ _ _ _ => pts_nil) (fun _ _ _ _ _ => (pe_cG G_law_seen g hr (by decide) rfl (pa_cons (pv 13) pa_nil)))) (pe_lc (own := [("other", 13)]) (g := gName 13) (by rfl) sc_law_changed_right.nd (pi_list (pv 6)) (blkOk_by (own := [("other", 13)]) (N := ["stream", "told", "keys", "hands", "old", "found", "due", "lost", "one", "row", "likes", "own", "vouch", "other"]) (sc := defScope s_law_changed_right) (by decide +kernel)) (fun _ _ _ _ _ => pg_name (i := 13) sc_law_changed_right.nd rfl (Or.inl rfl)) (fun _ _ _ _ _ => pts_nil) (fun _ _ _ _ _ => (pe_cG G_law_key g hr (by decide) rfl (pa_cons (pv 13) pa_nil)))) (nomark _)) (pss_one (ps_ret pe_bl)) pss_nil)
      (pss_one (ps_ret (pe_cmpR op_eq (pe_cG G_law_seen g hr (by decide) rfl (pa_cons (pv 8) pa_nil)) (pe_cG G_law_key g hr (by decide) rfl (pa_cons (pv 1) pa_nil)) (nomark _)))))))))))))))), ?_⟩
    have big : (1000 : Nat) ≤ sizeLine := by decide
    have tr := tg.r ww
    have wn := ww.n
    obtain ⟨⟨lr, lv, sv, e1, e2, e3, e4⟩, rs⟩ := id td
    have k8 := ww.k8
    have h4 := ww.h4
    -- the draws
    refine ⟨_, rfl, q, d, rfl, td, tr, fun x c H1 ca ok1 ci s1 => ⟨_, rfl, _, rfl, q, _, 0, _, rfl, rfl, SqT.of (s1 _ _ e1), atI_nat (j := 0) rfl, use_choose (st.keep s1) (SqL.of (s1 _ _ e2)) (st.no e2 refs_no) (by rw [List.length_map, List.length_map]; exact tr.n1) (by rw [List.length_map, List.length_map]; have := tr.n3; omega) fun v H2 hv st2 b2 => ⟨_, _, rfl, ?_⟩⟩⟩
    obtain ⟨r, hr2, rfl⟩ : ∃ r ∈ d.rows, v = .ref r.t := by
      obtain ⟨t, ht, rfl⟩ := List.mem_map.mp hv
      obtain ⟨r, h, rfl⟩ := List.mem_map.mp ht
      exact ⟨r, h, rfl⟩
    have o2 : One p C H2 x d := One.keep ⟨⟨c, cat_p st ca, ok1, ci⟩, tr⟩ b2
    have sb2 := (SameB.of (p := p) s1).trans b2
    have l22 := sb2 _ _ el2 (st.neS el2)
    have l32 := sb2 _ _ el3 (st.neS el3)
    have td2 := td.keep st sb2
    clear ca ci ok1 s1 b2 hv
    refine ⟨fun σ' H' => ∃ la u lw us vo, σ' = [some (.ref p), some (.ref q), some (.ref l2), some (.ref l3), none, none, none, none, some (.ref x), some (.ref r.t), some (.ref la), some (.str u), some (.ref lw), none] ∧ ∀ hv, H hv = some (.lst ((sgT d).map V.str)) → Cri p C q l2 l3 d keys hands H x la lw hv r u us vo H', ?_, ?_⟩
    · refine ⟨_, rfl, _, rfl, use_some st2 l22 (by omega) fun la us H3 nla subA ela st3 b3 => ⟨_, rfl, _, rfl, use_choose st3 (SqL.of (b3 _ _ l22 (st2.neS l22))) (st2.neS l22) (by rw [List.length_map]; exact wn.k0) (by rw [List.length_map]; omega) fun v H4 hv st4 b4 => ⟨_, rfl, _, rfl, use_some st4 ((b3.trans b4) _ _ l32 (st2.neS l32)) (by omega) fun lw vo H5 nlw subV elw st5 b5 => ⟨_, _, _, rfl, ?_⟩⟩⟩⟩
      obtain ⟨u, hu2, rfl⟩ := str_mem hv
      have sb5 := sb2.trans (b3.trans (b4.trans b5))
      have td5 := td.keep st sb5
      have wus : WdL us 8 := ⟨wn.kn.sublist subA, Nat.le_trans subA.length_le k8, fun k hk => ww.kw k (subA.subset hk)⟩
      have wvo : WdL vo 4 := ⟨wn.hn.sublist subV, Nat.le_trans subV.length_le h4, fun k hk => ww.hw k (subV.subset hk)⟩
      exact ⟨la, u, lw, us, vo, rfl, fun hv eh => ⟨st5, o2.keep (b3.trans (b4.trans b5)), td5, td5.rows r hr2, (b3.trans (b4.trans b5)) _ _ l22 (st2.neS l22), (b3.trans (b4.trans b5)) _ _ l32 (st2.neS l32), (b4.trans b5) _ _ ela (st3.neS ela), elw, sb5 _ _ eh (st.neS eh), sb5, hr2, wus, wvo, ww.kw u hu2⟩⟩
    rintro _ H5 ⟨la, u, lw, us, vo, rfl, cr⟩
    clear o2 td2 st2 l22 l32 sb2
    clear H2
    obtain ⟨hv, ehv, eh⟩ : ∃ hv, (if sv = .non then V.ref lv else sv) = .ref hv ∧ H hv = some (.lst ((sgT d).map V.str)) := by
      rcases sg_list e3 e4 with ⟨rfl, el⟩ | ⟨l, rfl, el⟩
      · exact ⟨lv, if_pos rfl, el⟩
      · exact ⟨l, if_neg (fun z => nomatch z), el⟩
    have cr5 := cr hv eh
    have e15 := cr5.sb _ _ e1 (st.no e1 fun _ _ z => nomatch z)
    clear cr
    refine ⟨fun σ' H' => σ' = sgC p q l2 l3 hv x la lw r u none none none ∧ Cri p C q l2 l3 d keys hands H x la lw hv r u us vo H', ?_, ?_⟩
    · refine ⟨_, rfl, q, _, 3, _, rfl, rfl, SqT.of e15, atI_nat (j := 3) rfl, rfl, _, rfl, if_noneG (fun Q qq => ⟨_, rfl, q, _, 1, _, rfl, rfl, SqT.of e15, atI_nat (j := 1) rfl, qq⟩) (fun Q qq => ⟨_, rfl, q, _, 3, _, rfl, rfl, SqT.of e15, atI_nat (j := 3) rfl, qq⟩) ?_⟩
      rw [ehv]
      exact ⟨rfl, cr5⟩
    clear cr5 e15
    clear H5
    clear ehv eh e4 e3 e2 e1 el2 el3 td st tg rs
    clear lr lv sv
    rintro _ H5 ⟨rfl, cr5⟩
    have no1 : ∀ {a b s : Addr} {n : Int}, (cflds a b n s).lookup ("changed" : Str) = none := get_no _ _ _ _ (by decide +kernel) (by decide +kernel) (by decide +kernel) (by decide +kernel)
    have no2 : ∀ {a b s : Addr} {n : Int}, (cflds a b n s).lookup ("revouched" : Str) = none := get_no _ _ _ _ (by decide +kernel) (by decide +kernel) (by decide +kernel) (by decide +kernel)
    have no3 : ∀ {a b s : Addr} {n : Int}, (cflds a b n s).lookup ("without" : Str) = none := get_no _ _ _ _ (by decide +kernel) (by decide +kernel) (by decide +kernel) (by decide +kernel)
    have rle : d.rows.length ≤ 100 := by have := tr.n3; omega
    have wus := cr5.wus
    have wvo := cr5.wvo
    have wu := cr5.wu
    have wr := tr.rw_ r hr2
    -- the first three
    refine ⟨fun σ' H' => ∃ l5 z1 z2 z3, σ' = sgC p q l2 l3 hv x la lw r u (some (.ref l5)) none none ∧ Cri p C q l2 l3 d keys hands H x la lw hv r u us vo H' ∧ H' l5 = some (.lst ([z1, z2, z3].map V.ref)) ∧
      (∀ d' : Td, d'.rows.map tri = d.rows.map (setF r.z us r.u) → d'.vo = d.vo → d'.le = d.le → sgT d' = sgT d → Fnd p C H' z1 (kyT d')) ∧ (∀ d' : Td, d'.rows.map tri = d.rows.map (setF r.z r.ks u) → d'.vo = d.vo → d'.le = d.le → sgT d' = sgT d → Fnd p C H' z2 (kyT d')) ∧ Fnd p C H' z3 (kyT d), ?_, ?_⟩
    · obtain ⟨dx, fa, fb, fn, fs, ex5⟩ := cr5.o.ins
      refine ⟨_, rfl, x, dx, _, rfl, ex5, no1, _, rfl, r.t, _, 0, _, rfl, rfl, SqT.of cr5.rr.tp, atI_nat (j := 0) rfl, _, rfl, rfl, rfl, use_chg cr5.st cr5.o hr2 (.inr ⟨la, true, rfl, cr5.la, wus⟩) (.inl ⟨rfl, rfl⟩) fun z1 H6 f1 s6 => ?_⟩
      have cr6 := cr5.same s6
      refine ⟨_, rfl, x, dx, _, rfl, s6 _ _ ex5, no1, _, rfl, r.t, _, 0, _, rfl, rfl, SqT.of cr6.rr.tp, atI_nat (j := 0) rfl, _, rfl, rfl, rfl, use_chg cr6.st cr6.o hr2 (.inl ⟨rfl, rfl⟩) (.inr ⟨rfl, wu⟩) fun z2 H7 f2 s7 => ?_⟩
      have cr7 := cr6.same s7
      have ex7 := (s6.trans s7) _ _ ex5
      refine ⟨_, rfl, x, dx, _, rfl, ex7, no1, _, rfl, r.t, _, 0, _, rfl, rfl, SqT.of cr7.rr.tp, atI_nat (j := 0) rfl, rfl, rfl, use_chg cr7.st cr7.o hr2 (.inl ⟨rfl, rfl⟩) (.inl ⟨rfl, rfl⟩) fun z3 H8 f3 s8 => ⟨by show 3 ≤ sizeLine; decide, fun l5 n5 => ?_⟩⟩
      have g9 := same_new (o := .lst [.ref z1, .ref z2, .ref z3]) n5
      exact ⟨l5, z1, z2, z3, rfl, (cr7.same s8).same g9, upd_same, fun d' a b c e => ((f1 d' a b c e).same ((s7.trans s8).trans g9)), fun d' a b c e => ((f2 d' a b c e).same (s8.trans g9)), ((f3 d (setF_id tr hr2).symm rfl rfl rfl).same g9)⟩
    clear cr5
    clear H5
    rintro _ H9 ⟨l5, z1, z2, z3, rfl, cr9, el5, F1, F2, F3⟩
    -- what is due for them
    refine ⟨fun σ' H' => ∃ l5 l6 fs qs ks, σ' = sgC p q l2 l3 hv x la lw r u (some (.ref l5)) (some (.ref l6)) none ∧ Cri p C q l2 l3 d keys hands H x la lw hv r u us vo H' ∧ H' l5 = some (.lst (fs.map V.ref)) ∧ H' l6 = some (.lst (qs.map V.ref)) ∧ FL p C H' fs ks ∧ DL H' qs ks ∧ ks.length = 3, ?_, ?_⟩
    · refine ⟨_, rfl, _, rfl, r.t, _, 0, _, rfl, rfl, SqT.of cr9.rr.tp, atI_nat (j := 0) rfl, _, rfl, _, rfl, r.t, _, 2, _, rfl, rfl, SqT.of cr9.rr.tp, atI_nat (j := 2) rfl, q, r.z, la, r.u, d, us, rfl, cr9.td, cr9.la, rle, fun q1 d1 H10 nq1 s10 t1 a1 a2 a3 a4 => ?_⟩
      have cr10 := cr9.same s10
      refine ⟨_, rfl, _, rfl, r.t, _, 0, _, rfl, rfl, SqT.of cr10.rr.tp, atI_nat (j := 0) rfl, _, rfl, r.t, _, 1, _, rfl, rfl, SqT.of cr10.rr.tp, atI_nat (j := 1) rfl, _, rfl, q, r.z, r.a, u, d, r.ks, rfl, cr10.td, cr10.rr.ls, rle, fun q2 d2 H11 nq2 s11 t2 b1 b2 b3 b4 => ⟨_, rfl, by show 3 ≤ sizeLine; decide, fun l6 n6 => ?_⟩⟩
      have g12 := same_new (o := .lst [.ref q1, .ref q2, .ref q]) n6
      have cr12 := (cr10.same s11).same g12
      have s12 := (s10.trans s11).trans g12
      have sg1 : sgT d1 = sgT d := by unfold sgT at a4 ⊢; rw [a4]; rfl
      have sg2 : sgT d2 = sgT d := by unfold sgT at b4 ⊢; rw [b4]; rfl
      exact ⟨l5, l6, [z1, z2, z3], [q1, q2, q], [kyT d1, kyT d2, kyT d], rfl, cr12, s12 _ _ el5, upd_same, .cons ((F1 d1 a1 a2 a3 sg1).same s12) (.cons ((F2 d2 b1 b2 b3 sg2).same s12) (.cons (F3.same s12) .nil)),
        .cons ⟨d1, t1.same (s11.trans g12), tr.setF wus wr.2.1 a1 a2 a3 sg1 a4, rfl⟩ (.cons ⟨d2, t2.same g12, tr.setF wr.2.2 wu b1 b2 b3 sg2 b4, rfl⟩ (.cons ⟨d, cr12.td, tr, rfl⟩ .nil)), rfl⟩
    clear F1 F2 F3 cr9 el5
    clear H9 z1 z2 z3 l5
    rintro _ H12 ⟨l5, l6, fs1, qs1, ks1, rfl, cr12, el5, el6, FF, DD, n3⟩
    -- two more
    refine ⟨fun σ' H' => ∃ l7 z4 z5, σ' = sgC p q l2 l3 hv x la lw r u (some (.ref l7)) (some (.ref l6)) none ∧ Cri p C q l2 l3 d keys hands H x la lw hv r u us vo H' ∧ H' l7 = some (.lst ((fs1 ++ [z4, z5]).map V.ref)) ∧ Same H12 H' ∧
      (∀ d' : Td, d'.rows.map tri = d.rows.map (setF r.z us u) → d'.vo = d.vo → d'.le = d.le → sgT d' = sgT d → Fnd p C H' z4 (kyT d')) ∧ Fnd p C H' z5 (kyT ⟨d.rows, vo, d.le, some (sgT d)⟩), ?_, ?_⟩
    · obtain ⟨dx, fa, fb, fn, fs, ex12⟩ := cr12.o.ins
      refine ⟨_, rfl, _, rfl, x, dx, _, rfl, ex12, no1, _, rfl, r.t, _, 0, _, rfl, rfl, SqT.of cr12.rr.tp, atI_nat (j := 0) rfl, _, rfl, la, _, rfl, .inl ⟨SqL.of cr12.la, fun lt nlt => ?_⟩⟩
      have s13 := same_new (o := .tup (us.map V.str)) nlt
      have elt : upd H12 lt (.tup (us.map V.str)) lt = some (seqO false us) := upd_same
      have cr13 := cr12.same s13
      generalize upd H12 lt (.tup (us.map V.str)) = H13 at *
      refine ⟨_, rfl, rfl, rfl, use_chg cr13.st cr13.o hr2 (.inr ⟨lt, false, rfl, elt, wus⟩) (.inr ⟨rfl, wu⟩) fun z4 H14 f4 s14 => ?_⟩
      have cr14 := cr13.same s14
      have ex14 := (s13.trans s14) _ _ ex12
      refine ⟨_, rfl, x, dx, _, rfl, ex14, no2, _, rfl, rfl, use_rvd (d' := ⟨d.rows, vo, d.le, some (sgT d)⟩) cr14.st cr14.o (.inr ⟨lw, rfl, cr14.lw, wvo⟩) (.inl ⟨rfl, rfl⟩) (.inl ⟨rfl, rfl⟩) rfl fun z5 H15 f5 s15 => ⟨by show 2 ≤ sizeLine; decide, fun m1 nm1 => ?_⟩⟩
      have g16 := same_new (o := .lst [.ref z4, .ref z5]) nm1
      have s16 := ((s13.trans s14).trans s15).trans g16
      refine ⟨l5, m1, _, _, rfl, rfl, s16 _ _ el5, upd_same, by rw [List.length_map, FF.len, n3]; show 5 ≤ sizeLine; decide, fun l7 n7 => ?_⟩
      have g17 := same_new (o := .lst (fs1.map V.ref ++ [.ref z4, .ref z5])) n7
      exact ⟨l7, z4, z5, rfl, cr12.same (s16.trans g17), by rw [upd_same, List.map_append]; rfl, s16.trans g17, fun d' a b c e => ((f4 d' a b c e).same ((s15.trans g16).trans g17)), f5.same (g16.trans g17)⟩
    rintro _ H17 ⟨l7, z4, z5, rfl, cr17, el7, s17, F4, F5⟩
    refine ⟨fun σ' H' => ∃ l5 l6 fs qs ks, σ' = sgC p q l2 l3 hv x la lw r u (some (.ref l5)) (some (.ref l6)) none ∧ Cri p C q l2 l3 d keys hands H x la lw hv r u us vo H' ∧ H' l5 = some (.lst (fs.map V.ref)) ∧ H' l6 = some (.lst (qs.map V.ref)) ∧ FL p C H' fs ks ∧ DL H' qs ks ∧ ks.length = 5, ?_, ?_⟩
    · obtain ⟨⟨lr2, lv2, sv2, h1, h2, h3, h4'⟩, rs2⟩ := id cr17.td
      refine ⟨_, rfl, _, rfl, _, rfl, r.t, _, 0, _, rfl, rfl, SqT.of cr17.rr.tp, atI_nat (j := 0) rfl, _, rfl, _, rfl, q, r.z, la, u, d, us, rfl, cr17.td, cr17.la, rle, fun q3 d3 H18 nq3 s18 t3 a1 a2 a3 a4 => ?_⟩
      refine ⟨_, rfl, q, _, 0, _, rfl, rfl, SqT.of (s18 _ _ h1), atI_nat (j := 0) rfl, _, rfl, _, rfl, q, _, 2, _, rfl, rfl, SqT.of (s18 _ _ h1), atI_nat (j := 2) rfl, _, rfl, by show 4 ≤ sizeLine; decide, fun q4 nq4 => ?_⟩
      have g19 := same_new (o := .tup [.ref lr2, .ref lw, .int d.le, .ref hv]) nq4
      have e19 : upd H18 q4 (.tup [.ref lr2, .ref lw, .int d.le, .ref hv]) q4 = some (.tup [.ref lr2, .ref lw, .int d.le, .ref hv]) := upd_same
      generalize upd H18 q4 (.tup [.ref lr2, .ref lw, .int d.le, .ref hv]) = H19 at *
      refine ⟨by show 2 ≤ sizeLine; decide, fun m2 nm2 => ?_⟩
      have g20 := same_new (o := .lst [.ref q3, .ref q4]) nm2
      have s20 := (s18.trans g19).trans g20
      refine ⟨l6, m2, _, _, rfl, rfl, s20 _ _ (s17 _ _ el6), upd_same, by rw [List.length_map, DD.len, n3]; show 5 ≤ sizeLine; decide, fun l8 n8 => ?_⟩
      have g21 := same_new (o := .lst (qs1.map V.ref ++ [.ref q3, .ref q4])) n8
      have s21 := s20.trans g21
      have sg3 : sgT d3 = sgT d := by unfold sgT at a4 ⊢; rw [a4]; rfl
      have tr4 : TdR ⟨d.rows, vo, d.le, some (sgT d)⟩ := ⟨tr.n1, tr.n3, tr.nd, tr.rw_, wvo, tr.le, fun ks e => by cases e; exact sgT_wd tr⟩
      have cr21 := cr17.same s21
      have td4 : TdAt _ q4 ⟨d.rows, vo, d.le, some (sgT d)⟩ := ⟨⟨lr2, lw, .ref hv, (g20.trans g21) _ _ e19, s21 _ _ h2, cr21.lw, ⟨hv, rfl, cr21.hv⟩⟩, cr21.td.rows⟩
      exact ⟨l7, l8, fs1 ++ [z4, z5], qs1 ++ [q3, q4], ks1 ++ [kyT d3, _], rfl, cr21, s21 _ _ el7, by rw [upd_same, List.map_append]; rfl, (FF.keep (SameB.of (s17.trans s21))).app (.cons ((F4 d3 a1 a2 a3 sg3).same s21) (.cons (F5.same s21) .nil)),
        (DD.same (s17.trans s21)).app (.cons ⟨d3, t3.same ((g19.trans g20).trans g21), tr.setF wus wu a1 a2 a3 sg3 a4, rfl⟩ (.cons ⟨_, td4, tr4, rfl⟩ .nil)), by rw [List.length_append, n3]; rfl⟩
    clear FF DD F4 F5 cr17 el7 el6 el5 s17 cr12 n3
    clear H17 H12 z4 z5 fs1 qs1 ks1 l5 l6 l7
    rintro _ H21 ⟨l5, l6, fs1, qs1, ks1, rfl, cr21, el5, el6, FF, DD, n5⟩
    -- three more
    refine ⟨fun σ' H' => ∃ l7 z6 z7 z8, σ' = sgC p q l2 l3 hv x la lw r u (some (.ref l7)) (some (.ref l6)) none ∧ Cri p C q l2 l3 d keys hands H x la lw hv r u us vo H' ∧ H' l7 = some (.lst ((fs1 ++ [z6, z7, z8]).map V.ref)) ∧ Same H21 H' ∧
      Fnd p C H' z6 (kyT ⟨d.rows, d.vo, 3, some (sgT d)⟩) ∧ Fnd p C H' z7 (kyT ⟨d.rows, d.vo, d.le, some vo⟩) ∧ Fnd p C H' z8 (kyT d), ?_, ?_⟩
    · obtain ⟨dx, fa, fb, fn, fs, ex21⟩ := cr21.o.ins
      refine ⟨_, rfl, _, rfl, x, dx, _, rfl, ex21, no2, rfl, use_rvd (d' := ⟨d.rows, d.vo, 3, some (sgT d)⟩) cr21.st cr21.o (.inl ⟨rfl, rfl⟩) (.inr ⟨rfl, (show (0 : Int) ≤ 3 by decide), (show (3 : Int) ≤ 4 by decide)⟩) (.inl ⟨rfl, rfl⟩) rfl fun z6 H22 f6 s22 => ?_⟩
      have cr22 := cr21.same s22
      refine ⟨_, rfl, x, dx, _, rfl, s22 _ _ ex21, no2, _, rfl, rfl, use_rvd (d' := ⟨d.rows, d.vo, d.le, some vo⟩) cr22.st cr22.o (.inl ⟨rfl, rfl⟩) (.inl ⟨rfl, rfl⟩) (.inr ⟨lw, rfl, cr22.lw, wvo⟩) rfl fun z7 H23 f7 s23 => ?_⟩
      have cr23 := cr22.same s23
      refine ⟨_, rfl, x, dx, _, rfl, (s22.trans s23) _ _ ex21, no2, rfl, use_rvd (d' := d) cr23.st cr23.o (.inl ⟨rfl, rfl⟩) (.inl ⟨rfl, rfl⟩) (.inl ⟨rfl, rfl⟩) rfl fun z8 H24 f8 s24 => ⟨by show 3 ≤ sizeLine; decide, fun m3 nm3 => ?_⟩⟩
      have g25 := same_new (o := .lst [.ref z6, .ref z7, .ref z8]) nm3
      have s25 := ((s22.trans s23).trans s24).trans g25
      refine ⟨l5, m3, _, _, rfl, rfl, s25 _ _ el5, upd_same, by rw [List.length_map, FF.len, n5]; show 8 ≤ sizeLine; decide, fun l9 n9 => ?_⟩
      have g26 := same_new (o := .lst (fs1.map V.ref ++ [.ref z6, .ref z7, .ref z8])) n9
      exact ⟨l9, z6, z7, z8, rfl, cr21.same (s25.trans g26), by rw [upd_same, List.map_append]; rfl, s25.trans g26, f6.same (((s23.trans s24).trans g25).trans g26), f7.same ((s24.trans g25).trans g26), f8.same (g25.trans g26)⟩
    rintro _ H26 ⟨l7, z6, z7, z8, rfl, cr26, el7, s26, F6, F7, F8⟩
    refine ⟨fun σ' H' => ∃ l5 l6 fs qs ks, σ' = sgC p q l2 l3 hv x la lw r u (some (.ref l5)) (some (.ref l6)) none ∧ Cri p C q l2 l3 d keys hands H x la lw hv r u us vo H' ∧ H' l5 = some (.lst (fs.map V.ref)) ∧ H' l6 = some (.lst (qs.map V.ref)) ∧ FL p C H' fs ks ∧ DL H' qs ks ∧ ks.length = 8, ?_, ?_⟩
    · obtain ⟨⟨lr3, lv3, sv3, h1, h2, h3, h4'⟩, rs3⟩ := id cr26.td
      refine ⟨_, rfl, _, rfl, q, _, 0, _, rfl, rfl, SqT.of h1, atI_nat (j := 0) rfl, _, rfl, q, _, 1, _, rfl, rfl, SqT.of h1, atI_nat (j := 1) rfl, _, rfl, by show 4 ≤ sizeLine; decide, fun q5 nq5 => ?_⟩
      have s27 := same_new (o := .tup [.ref lr3, .ref lv3, .int 3, .ref hv]) nq5
      have e27 : upd H26 q5 (.tup [.ref lr3, .ref lv3, .int 3, .ref hv]) q5 = some (.tup [.ref lr3, .ref lv3, .int 3, .ref hv]) := upd_same
      generalize upd H26 q5 (.tup [.ref lr3, .ref lv3, .int 3, .ref hv]) = H27 at *
      refine ⟨_, rfl, q, _, 0, _, rfl, rfl, SqT.of (s27 _ _ h1), atI_nat (j := 0) rfl, _, rfl, q, _, 1, _, rfl, rfl, SqT.of (s27 _ _ h1), atI_nat (j := 1) rfl, _, rfl, q, _, 2, _, rfl, rfl, SqT.of (s27 _ _ h1), atI_nat (j := 2) rfl, _, rfl, by show 4 ≤ sizeLine; decide, fun q6 nq6 => ?_⟩
      have s28 := same_new (o := .tup [.ref lr3, .ref lv3, .int d.le, .ref lw]) nq6
      have e28 : upd H27 q6 (.tup [.ref lr3, .ref lv3, .int d.le, .ref lw]) q6 = some (.tup [.ref lr3, .ref lv3, .int d.le, .ref lw]) := upd_same
      generalize upd H27 q6 (.tup [.ref lr3, .ref lv3, .int d.le, .ref lw]) = H28 at *
      refine ⟨_, rfl, by show 3 ≤ sizeLine; decide, fun m4 nm4 => ?_⟩
      have g29 := same_new (o := .lst [.ref q5, .ref q6, .ref q]) nm4
      have s29 := (s27.trans s28).trans g29
      refine ⟨l6, m4, _, _, rfl, rfl, s29 _ _ (s26 _ _ el6), upd_same, by rw [List.length_map, DD.len, n5]; show 8 ≤ sizeLine; decide, fun l10 n10 => ?_⟩
      have g30 := same_new (o := .lst (qs1.map V.ref ++ [.ref q5, .ref q6, .ref q])) n10
      have s30 := s29.trans g30
      have cr30 := cr26.same s30
      have tr5 : TdR ⟨d.rows, d.vo, 3, some (sgT d)⟩ := ⟨tr.n1, tr.n3, tr.nd, tr.rw_, tr.vo, ⟨(show (0 : Int) ≤ 3 by decide), (show (3 : Int) ≤ 4 by decide)⟩, fun ks e => by cases e; exact sgT_wd tr⟩
      have tr6 : TdR ⟨d.rows, d.vo, d.le, some vo⟩ := ⟨tr.n1, tr.n3, tr.nd, tr.rw_, tr.vo, tr.le, fun ks e => by cases e; exact wvo⟩
      have td5 : TdAt _ q5 ⟨d.rows, d.vo, 3, some (sgT d)⟩ := ⟨⟨lr3, lv3, .ref hv, ((s28.trans g29).trans g30) _ _ e27, s30 _ _ h2, s30 _ _ h3, ⟨hv, rfl, cr30.hv⟩⟩, cr30.td.rows⟩
      have td6 : TdAt _ q6 ⟨d.rows, d.vo, d.le, some vo⟩ := ⟨⟨lr3, lv3, .ref lw, (g29.trans g30) _ _ e28, s30 _ _ h2, s30 _ _ h3, ⟨lw, rfl, cr30.lw⟩⟩, cr30.td.rows⟩
      exact ⟨l7, l10, fs1 ++ [z6, z7, z8], qs1 ++ [q5, q6, q], ks1 ++ [_, _, _], rfl, cr30, s30 _ _ el7, by rw [upd_same, List.map_append]; rfl, (FF.keep (SameB.of (s26.trans s30))).app (.cons (F6.same s30) (.cons (F7.same s30) (.cons (F8.same s30) .nil))),
        (DD.same (s26.trans s30)).app (.cons ⟨_, td5, tr5, rfl⟩ (.cons ⟨_, td6, tr6, rfl⟩ (.cons ⟨d, cr30.td, tr, rfl⟩ .nil))), by rw [List.length_append, n5]; rfl⟩
    clear FF DD F6 F7 F8 cr26 el7 el6 el5 s26 cr21 n5
    clear H26 H21 z6 z7 z8 fs1 qs1 ks1 l5 l6 l7
    rintro _ H30 ⟨l5, l6, fs1, qs1, ks1, rfl, cr30, el5, el6, FF, DD, n8⟩
    -- lost keys
    refine ⟨fun σ' H' => ∃ (lz : Addr) (ls : List Str), σ' = sgC p q l2 l3 hv x la lw r u (some (.ref l5)) (some (.ref l6)) (some (.ref lz)) ∧ Cri p C q l2 l3 d keys hands H x la lw hv r u us vo H' ∧ H' l5 = some (.lst (fs1.map V.ref)) ∧ H' l6 = some (.lst (qs1.map V.ref)) ∧ FL p C H' fs1 ks1 ∧ DL H' qs1 ks1 ∧ H' lz = some (.lst (ls.map V.str)) ∧ ls.length ≤ 100 ∧ ∀ z ∈ ls, Wd z, ?_, ?_⟩
    · refine ⟨_, rfl, _, rfl, _, rfl, l2, l3, _, _, rfl, rfl, cr30.l2, cr30.l3, by rw [List.length_map, List.length_map, sizeLine_eq]; omega, fun lc nlc => ?_⟩
      have s31 := same_new (o := .lst (keys.map V.str ++ hands.map V.str)) nlc
      have e31 : upd H30 lc (.lst (keys.map V.str ++ hands.map V.str)) lc = some (.lst ((keys ++ hands).map V.str)) := by rw [upd_same, List.map_append]
      have cr31 := cr30.same s31
      refine use_some cr31.st e31 (by rw [List.length_append]; omega) fun lz ls H32 nlz subL elz st32 b32 => ?_
      have s32 := (SameB.of (p := p) s31).trans b32
      refine ⟨lz, ls, rfl, cr31.keep b32 st32, s32 _ _ el5 (cr30.st.no el5 refs_no), s32 _ _ el6 (cr30.st.no el6 refs_no), FF.keep s32, DD.keep cr30.st s32, elz, ?_, fun z hz => ?_⟩
      · have := subL.length_le
        rw [List.length_append] at this
        omega
      · rcases List.mem_append.mp (subL.subset hz) with h | h
        · exact ww.kw z h
        · exact ww.hw z h
    clear FF DD cr30 el5 el6
    clear H30
    rintro _ H32 ⟨lz, ls, rfl, cr32, el5, el6, FF, DD, elz, lsl, wls⟩
    refine ⟨fun σ' H' => ∃ l5 l6 fs qs ks, σ' = sgC p q l2 l3 hv x la lw r u (some (.ref l5)) (some (.ref l6)) (some (.ref lz)) ∧ Cri p C q l2 l3 d keys hands H x la lw hv r u us vo H' ∧ H' l5 = some (.lst (fs.map V.ref)) ∧ H' l6 = some (.lst (qs.map V.ref)) ∧ FL p C H' fs ks ∧ DL H' qs ks ∧ ks.length = 10, ?_, ?_⟩
    · obtain ⟨dx2, fa2, fb2, fn2, fs2, ex32⟩ := cr32.o.ins
      refine ⟨_, rfl, _, rfl, x, dx2, _, rfl, ex32, no3, _, rfl, use_woI cr32.st cr32.o elz (by omega) wls fun z9 H33 f9 s33 => ?_⟩
      have cr33 := cr32.same s33
      refine ⟨_, rfl, x, dx2, _, rfl, s33 _ _ ex32, no3, _, rfl, _, rfl, lz, lz, _, _, rfl, rfl, s33 _ _ elz, s33 _ _ elz, by rw [List.length_map, sizeLine_eq]; omega, fun ll nll => ?_⟩
      have s34 := same_new (o := .lst (ls.map V.str ++ ls.map V.str)) nll
      have e34 : upd H33 ll (.lst (ls.map V.str ++ ls.map V.str)) ll = some (.lst ((ls ++ ls).map V.str)) := by rw [upd_same, List.map_append]
      have cr34 := cr33.same s34
      refine use_woI cr34.st cr34.o e34 (by rw [List.length_append]; omega) (fun z hz => (List.mem_append.mp hz).elim (wls z) (wls z)) fun z10 H35 f10 s35 => ⟨by show 2 ≤ sizeLine; decide, fun m5 nm5 => ?_⟩
      have g36 := same_new (o := .lst [.ref z9, .ref z10]) nm5
      have s36 := ((s33.trans s34).trans s35).trans g36
      refine ⟨l5, m5, _, _, rfl, rfl, s36 _ _ el5, upd_same, by rw [List.length_map, FF.len, n8]; show 10 ≤ sizeLine; decide, fun l11 n11 => ?_⟩
      have g37 := same_new (o := .lst (fs1.map V.ref ++ [.ref z9, .ref z10])) n11
      have el11 : upd (upd H35 m5 (.lst [.ref z9, .ref z10])) l11 (.lst (fs1.map V.ref ++ [.ref z9, .ref z10])) l11 = some (.lst ((fs1 ++ [z9, z10]).map V.ref)) := by rw [upd_same, List.map_append]; rfl
      have s37 := s36.trans g37
      have cr37 := cr32.same s37
      have F9 := fun d' a b c e => (f9 d' a b c e).same (((s34.trans s35).trans g36).trans g37)
      have F10 := fun d' a b c e => (f10 d' a b c e).same (g36.trans g37)
      generalize upd (upd H35 m5 (.lst [.ref z9, .ref z10])) l11 (.lst (fs1.map V.ref ++ [.ref z9, .ref z10])) = H37 at *
      have fk : ∀ r ∈ d.rows, r.ks.length ≤ 100 := fun r hr => by have := (tr.rw_ r hr).2.2.le; omega
      refine ⟨_, rfl, _, rfl, _, rfl, q, lz, d, ls, rfl, cr37.td, s37 _ _ elz, rle, fk, by have := tr.vo.le; omega, by have := (sgT_wd tr).le; omega, fun q7 d7 H38 nq7 s38 t7 a1 a2 a3 a4 => ⟨by show 1 ≤ sizeLine; decide, fun m6 nm6 => ?_⟩⟩
      have g39 := same_new (o := .lst [.ref q7]) nm6
      refine ⟨m6, 2, _, rfl, rfl, upd_same, by decide, by decide, by show 2 ≤ sizeLine; decide, fun m7 nm7 => ?_⟩
      have g40 := same_new (o := .lst [.ref q7, .ref q7]) nm7
      have s40 := (s38.trans g39).trans g40
      refine ⟨l6, m7, _, _, rfl, rfl, s40 _ _ (s37 _ _ el6), upd_same, by rw [List.length_map, DD.len, n8]; show 10 ≤ sizeLine; decide, fun l12 n12 => ⟨_, _, rfl, ?_⟩⟩
      have g41 := same_new (o := .lst (qs1.map V.ref ++ [.ref q7, .ref q7])) n12
      have s41 := s40.trans g41
      have sg7 : sgT d7 = lessK ls (sgT d) := by unfold sgT at a4 ⊢; rw [a4]; rfl
      have D7 : Due _ q7 (kyT d7) := ⟨d7, t7.same ((g39.trans g40).trans g41), tr.lost a1 a2 a3 a4, rfl⟩
      have b1 : d7.rows.map tri = d.rows.map fun r => (r.z, lessK (ls ++ ls) r.ks, r.u) := by
        rw [a1]
        exact List.map_congr_left fun r _ => by rw [lessK_twice]
      exact ⟨l11, l12, fs1 ++ [z9, z10], qs1 ++ [q7, q7], ks1 ++ [kyT d7, kyT d7], rfl, cr37.same s41, s41 _ _ el11, by rw [upd_same, List.map_append]; rfl, (FF.keep (SameB.of (s37.trans s41))).app (.cons ((F9 d7 a1 a2 a3 sg7).same s41) (.cons ((F10 d7 b1 (by rw [lessK_twice]; exact a2) a3 (by rw [lessK_twice]; exact sg7)).same s41) .nil)),
        (DD.same (s37.trans s41)).app (.cons D7 (.cons D7 .nil)), by rw [List.length_append, n8]; rfl⟩
    clear FF DD cr32 el5 el6 elz n8
    clear H32 fs1 qs1 ks1 l5 l6
    rintro _ H41 ⟨l5, l6, fs1, qs1, ks1, rfl, cr41, el5, el6, FF, DD, n10⟩
    have fl := FF.len
    have dl := DD.len
    refine ⟨_, rfl, l5, rfl, ⟨_, SqL.of el5⟩, fun D nD => ?_⟩
    refine lc_list (K := K) (a := l5) (xs := fs1.map V.ref) (fun i H' => H' D = some (.lst (((ks1.take i).map (·.shown)).map V.str)) ∧ Same H41 H') ⟨upd_same, same_new nD⟩ (fun i H' _ ⟨_, s⟩ => SqL.of (s _ _ el5)) ?_ ?_
    · rintro i v H' hv ⟨eD, s'⟩
      obtain ⟨y, ey, rfl⟩ := ref_at hv
      obtain ⟨k, ek, fk⟩ := FF.at_ ey
      obtain ⟨c, ca, ok, rfl⟩ := fk.ex
      have km := List.mem_of_getElem? ek
      refine ⟨rfl, yes_if ⟨_, rfl, y, c, _, rfl, ca.same s', ok, (DD.ok _ km).2, fun H2 s2 => ⟨_, s2 _ _ eD, by rw [List.length_map, List.length_map, List.length_take, n10, sizeLine_eq]; omega, by rw [upd_same, List.take_succ, ek, List.map_append, List.map_append]; rfl, fun q o e => by rw [upd_ne (ne_of_none e nD)]; exact s2 _ _ (s' _ _ e)⟩⟩⟩
    rintro HA ⟨eD, sA⟩
    rw [List.length_map, fl, List.take_length] at eD
    have el6A := sA _ _ el6
    refine ⟨_, rfl, l6, rfl, ⟨_, SqL.of el6A⟩, fun D2 nD2 => ?_⟩
    refine lc_list (K := K) (a := l6) (xs := qs1.map V.ref) (fun i H' => H' D2 = some (.lst (((ks1.take i).map (·.shown)).map V.str)) ∧ Same HA H') ⟨upd_same, same_new nD2⟩ (fun i H' _ ⟨_, s⟩ => SqL.of (s _ _ el6A)) ?_ ?_
    · rintro i v H' hv ⟨eD, s'⟩
      obtain ⟨y, ey, rfl⟩ := ref_at hv
      obtain ⟨k, ek, fk⟩ := DD.at_ ey
      obtain ⟨d', td', tr', rfl⟩ := fk.ex
      refine ⟨rfl, yes_if ⟨_, rfl, y, d', rfl, td'.same (sA.trans s'), tr'.few, shn_ky tr', fun H2 s2 => ⟨_, s2 _ _ eD, by rw [List.length_map, List.length_map, List.length_take, n10, sizeLine_eq]; omega, by rw [upd_same, List.take_succ, ek, List.map_append, List.map_append]; rfl, fun q o e => by rw [upd_ne (ne_of_none e nD2)]; exact s2 _ _ (s' _ _ e)⟩⟩⟩
    rintro HB ⟨eD2, sB⟩
    rw [List.length_map, dl, List.take_length] at eD2
    have okk : ∀ z ∈ ks1.map (·.shown), okW z := fun z hz => by
      obtain ⟨k, hk, rfl⟩ := List.mem_map.mp hz
      exact (DD.ok k hk).1
    refine ask_neS (SqL.of (sB _ _ eD)) (SqL.of eD2) okk okk ⟨_, rfl, iteFe (by rw [decide_eq_true rfl]; rfl) ?_⟩
    have crB := cr41.same (sA.trans sB)
    obtain ⟨⟨c, ca, ok, ci⟩, _⟩ := crB.o
    have ke := ky_eq tr ci
    refine ⟨_, rfl, x, c, _, rfl, ca, ok, by rw [ke]; exact shn_ky tr, fun H2 s2 => ⟨_, rfl, q, d, rfl, crB.td.same s2, tr.few, shn_ky tr, fun H3 s3 => ?_⟩⟩
    rw [ke]
    have crE := crB.same (s2.trans s3)
    refine ⟨rfl, ?_⟩
    rw [decide_eq_true rfl]
    exact kQ _ crE.st crE.sb
end

end K08

/-! lambdas handed to a def of the law, where repr may be asked: the maker's table of code objects -/
namespace Jg
open PySem PySem.Spec PyProof.Rows L2
/-- a def of the module whose code object stands at c -/
structure DefC (K : PySem.W.Frag) (mg : Str → Option Value) (x : Str) (st : Stmt) (c : Addr) : Prop where
  ex : ∃ (f : Addr) (oc : Value) (od : Option Addr) (kV doc pm : Value) (an : Option Addr) (ct : Value) (osl : Array (Option Value)), K.lookup f = some ⟨oc, od, .func (PySem.W.fnOf x x (defArgs st) (defBody st) (defScope st) .none kV doc pm an (.ref c) ct), osl⟩ ∧ PySem.W.codeIn K (.ref c) x = true ∧ PySem.W.keepIn K (.ref f) = true ∧ mg x = some (.ref f)
theorem DefC.of {K : PySem.W.Frag} {h : Heap} {mg : Str → Option Value} {x : Str} {st : Stmt} {c f : Addr} {oc : Value} {od an : Option Addr} {osl : Array (Option Value)} {kV doc pm ct : Value} (X : K.In h) (G : h.Ns mainGlobals mg)
    (a : PySem.W.nsIn K mainGlobals x = some (some (.ref f))) (l : K.lookup f = some ⟨oc, od, .func (PySem.W.fnOf x x (defArgs st) (defBody st) (defScope st) .none kV doc pm an (.ref c) ct), osl⟩)
    (e : PySem.W.codeIn K (.ref c) x = true) (k : PySem.W.keepIn K (.ref f) = true) : DefC K mg x st c := ⟨f, oc, od, kV, doc, pm, an, ct, osl, l, e, k, PySem.W.mg_of X G a⟩
section
variable {P : Program} {w : World} {K : PySem.W.Frag} {mg : Str → Option Value} {base : Heap} {k : Nat} {x : Str} {st : Stmt} {c : Addr} {N ps : List Str} {sp : Sp}
/-- .. walked where no repr is under way -/
theorem DefC.calG (D : DefC K mg x st c) (S : FnScope N ps (defScope st)) (b : BindOk x x st ps) (len : ∀ vs H Q E, sp vs H Q E → vs.length = ps.length)
    (hb : ∀ (f : Addr) (A : Around) (outer : List Env) (s : Shared) (H : Hp) (vs : List V) (Q : VK) (E : XK), (cxOf CX0 P w K mg base N x (defScope st) f (.ref c) A outer s H E).nox.A.guards = some [] → Room k (A.deeper (envOfC x (defScope st) s.heap.objs.size f (.ref c))) → sp vs H Q E →
      ∃ t, PSs (cxOf CX0 P w K mg base N x (defScope st) f (.ref c) A outer s H E).nox (defBody st) t ∧ t { nx := fun _ H' => Q .non H', rt := Q } (start N vs) H) : CalG P w K mg base CX0 (k + 1) x sp := by
  obtain ⟨f, oc, od, kV, doc, pm, an, ct, osl, lk, hcd, kp, hm⟩ := D.ex
  refine ⟨f, _, ps, ⟨len, fun A g outer s H args us vs Q E hr e0 hb2 r hsp => ?_⟩, hm, kp, .all (b kV doc pm an (.ref c) ct)⟩
  have inHeap : K.In s.heap := e0.mod.kin.keeps fun b o e => (e0.bs b o e).1
  have kinds : ∀ y ∈ ps.zip us, (defScope st).names.lookup y.1 = some .local ∨ ((defScope st).names.lookup y.1 = some .cell ∧ ((cellsFrom (s.heap.objs.size + 1) (defScope st).names []).lookup y.1).isSome = true) := fun y hy =>
    (S.par y.1 (List.of_mem_zip hy).1).imp id fun q => ⟨q, PySem.W.cellsFrom_some _ _ _ (.inl q)⟩
  refine codeAny_call_function hr.depth (inHeap _ _ lk) rfl S.co S.gen rfl (PySem.W.codeRec_of inHeap hcd) (hb2 _ _ _ _ ?_)
  refine wpAny_newFunctionEnv_cells S.kind kinds fun env he s1 y => ?_
  subst he
  obtain ⟨t, ht, hq⟩ := hb f A outer s H vs Q E (guards_deeper g) (hr.deeper _) hsp
  have I := inv_start (CX := CX0) (E := E) S hr.hd e0 (len _ _ _ _ hsp) r y
  refine ⟨(e0.mod.nolimit.keeps fun b o e => (e0.bs b o e).1).keeps y.toInCall.keep, codeAny_func (wpAny_mono (ht.nox.run [] s1 (start N vs) H _ I hq) (fun fl s' hs => ?_) fun _ _ hs => hs)⟩
  match fl, hs with
  | .ret u, ⟨v, _, H', J, rv, q⟩ => exact ⟨v, H', J.os, J.bare, J.base, J.hok, rv, q⟩
  | .next, ⟨_, H', J, q⟩ => exact ⟨.non, H', J.os, J.bare, J.base, J.hok, rfl, q⟩
  | .brk, ⟨_, _, _, q⟩ => exact False.elim q
  | .cont, ⟨_, _, _, q⟩ => exact False.elim q
end
/-- the slots are as many as the names -/
theorem Takes.sized {X : Cx} {W : WX} (t : Takes X W) : Takes X (fun cls d σ H => σ.length = X.N.length → W cls d σ H) := fun u s' ⟨a, B, sI, pins, σ, H, cls, d, e, I, nb, up, sky, na, os, ag, w⟩ =>
  t u s' ⟨a, B, sI, pins, σ, H, cls, d, e, I, nb, up, sky, na, os, ag, w I.len⟩
section
variable {X : Cx}
/-- x(lambda: body), the maker's code object at c with its table at P -/
theorem pe_lam {TT : (XK → Hp → VK → Prop) → Hp → VK → Prop} {x a : Str} {st : Stmt} {c P : Addr} {k : Nat} {Ng : List Str} {params : Arguments} {body : Expr} {scope : Scope} {t : XK → TE} {p lpos pos : Pos} (D : DefK X.K X.mg x st) (Sg : FnScope Ng [a] (defScope st)) (b : BindOk x x st [a])
    (hG : ∀ (g : Addr) (cdg : Value), LamX.GivesTo X Ng x (defScope st) g cdg (defBody st) a (X.env.qual ++ "<lambda>") TT) (TB : LamX.TabB X.base X.mg c P) (hcode : X.env.code = .ref c) (hr : Room (k + 2) X.A)
    (hbody : ∀ (A : Around) (outer : List Env) (s : Shared) (H : Hp) (E : XK) (f c' : Addr), Room k (A.deeper (LamX.lamEnv X scope s.heap.objs.size f c')) → PE (LamX.lamCx X A outer s H E scope f c') body (t E))
    (hg : Gl X x) (hNg : Ng[0]? = some a) (hva : Vis (defScope st) a) (L : LamX.LamS X.env.scope scope) (hdef : defaultsOf params X.env = ([], []))
    (hbind : ∀ (q : Str) (cl : List (Str × Addr)) (pm cv ctv : Value), bindArgs (PySem.W.kla_fn "<lambda>" q params body scope cl pm cv ctv) ⟨[], []⟩ = pure [])
    (hdb : (x == ("__debug__" : Str)) = false := by decide) (hd : (a == ("__debug__" : Str)) = false := by decide) (hcd : (a == ("__classdict__" : Str)) = false := by decide) :
    PE X (.Call (.Name x p) [.Lambda params body scope lpos] [] pos) (LamX.tLam [(P, X.env.qual ++ "<lambda>")] TT t) := by
  obtain ⟨g, fd, F, hm⟩ := D.ex
  have F' := F
  obtain ⟨oc, od, kV, doc, pm, an, cdv, ct, osl, rfl, lk, hcg⟩ := F.ex
  exact LamX.pe_lamcall hg hm F'.kp lk hcg (F'.binds b) Sg hNg hva (hG g cdv) TB hcode (List.mem_singleton.mpr rfl) (fun q hq _ => by rw [List.mem_singleton.mp hq]) hr L hdef hbind hbody hdb hd hcd
end
/-! ### the end, with the tables of some code objects, over a def that may ask for a repr -/
theorem law_callTG {P : Program} {w : World} {K : PySem.W.Frag} {mg mb : Str → Option Value} {CX : CXT} {k : Nat} {fa a c T : Addr} {fd : FuncData} {x : Str} {sp : Sp} {s₁ : Shared} {vs : List Value} {ns : List Int}
    (KX : K.In s₁.heap) (hns : s₁.heap.Ns mainGlobals mg) (hb : s₁.heap.Ns builtinsNs mb) (hbb : ∀ x : Str, x ≠ "__name__" → mb x = bootBuiltins x) (hlim : s₁.heap.NoLimit) (hg : s₁.gens = #[])
    (hT : s₁.heap.get? T = some { cls := .none, data := .fields #[] }) (nT : K.lookup T = none) (C : PySem.W.CodeHd s₁.heap c T)
    (hbm : ∃ (bm : Addr) (ob : Obj), mg "__builtins__" = some (.ref bm) ∧ bm ≠ builtinsNs ∧ s₁.heap.get? bm = some ob ∧ ob.cls = .type "module" ∧ ob.dict = some builtinsNs ∧ ob.data = .plain)
    (ha : s₁.heap.get? a = some { cls := .type "list", data := .seq vs.toArray }) (hi : IntsAre vs ns) (hl : ns.length ≤ sizeLine) (hr : Room k callerA)
    (F : ∀ base : Heap, K.In base → base.Ns mainGlobals mg → LamX.TabB base mg c T → FnG P w K mg base CX k fa fd [x] sp) (hbind : ∀ (s : Shared) (u : Value), BindsTo s fd ⟨[u], []⟩ [(x, u)])
    (hsp : ∀ H : Hp, H T = some (.tbl #[]) → SqL K H a (ns.map V.int) → sp [.ref a] H (fun v _ => v = .bl true) fun _ _ _ => False)
    (hCX : ∀ H e s', CX [] H s₁ (fun _ _ _ => False) e s' → False) :
    codeAny (model P w) callerA (.call (.ref fa) ⟨[.ref a], []⟩) (fun r s' => r = .ok (.ret (.bool true)) ∧ OldK s₁.heap s'.heap ∧ s'.os = s₁.os ∧ AllBare s'.gens) s₁ := by
  have lenV := hi.length
  let scriptO : Obj := { cls := .type "list", data := .seq vs.toArray }
  have aT : a ≠ T := fun e => by
    rw [e, hT] at ha
    exact nomatch (show Data.fields #[] = Data.seq vs.toArray _ from congrArg Obj.data (Option.some.inj ha))
  -- what is tracked: the table, and the script unless it is one of the module's own objects
  let H : Hp := fun b => if b = T then some (.tbl #[]) else if b = a ∧ K.lookup a = none then some (.frz scriptO (.lst (ns.map V.int))) else none
  have HT : H T = some (.tbl #[]) := if_pos rfl
  have H1 : ∀ b u, H b = some u → (b = T ∧ u = .tbl #[]) ∨ (b = a ∧ K.lookup a = none ∧ u = .frz scriptO (.lst (ns.map V.int))) := fun b u e => by
    by_cases c0 : b = T
    · have e' : some (HO.tbl #[]) = some u := (if_pos c0).symm.trans e
      exact .inl ⟨c0, (Option.some.inj e').symm⟩
    have e := (show (if b = a ∧ K.lookup a = none then some (HO.frz scriptO (.lst (ns.map V.int))) else none) = some u from (if_neg c0).symm.trans e)
    by_cases c : b = a ∧ K.lookup a = none
    · rw [if_pos c] at e
      exact .inr ⟨c.1, c.2, (Option.some.inj e).symm⟩
    · rw [if_neg c] at e
      cases e
  have seq : SqL K H a (ns.map V.int) := by
    cases hk : K.lookup a with
    | none =>
      have z : H a = some (.frz scriptO (.lst (ns.map V.int))) := (if_neg aT).trans (if_pos ⟨rfl, hk⟩)
      exact .inl (.inr ⟨scriptO, z⟩)
    | some o =>
      have e := KX a o hk
      rw [ha] at e
      cases e
      exact .inr ⟨_, vs.toArray, _, hk, rfl, rfl, rfl, by rw [List.size_toArray, lenV]; exact hl, by simpa using vals_ints hi⟩
  have ok : HOk P w H s₁.heap := fun b u e => by
    rcases H1 b u e with ⟨rfl, rfl⟩ | ⟨rfl, _, rfl⟩
    · exact hT
    · exact ⟨ha, by rw [List.length_map]; exact hl, vs, _, vals_ints hi, ha⟩
  have other : ∀ {b : Addr} {o : Obj}, s₁.heap.get? b = some o → o.data ≠ .fields #[] → (∀ vs n, o.data ≠ .seq vs n) → H b = none := fun {b o} e n1 n2 => by
    cases q : H b with
    | none => rfl
    | some u =>
      rcases H1 b u q with ⟨rfl, _⟩ | ⟨rfl, _, _⟩
      · rw [hT] at e
        cases e
        exact absurd rfl n1
      · rw [ha] at e
        cases e
        exact absurd rfl (n2 _ _)
  have ns0 : ∀ {b : Addr} {m : Str → Option Value}, s₁.heap.Ns b m → (hidT s₁.heap H).Ns b m := fun {b m} ⟨o, es, ep, e, d, r⟩ => ⟨o, es, ep, hidT_get e (other e (by rw [d]; exact fun z => nomatch z) fun _ _ => by rw [d]; exact fun z => nomatch z), d, r⟩
  have kin0 : K.In (hidT s₁.heap H) := fun b o e => hidT_get (KX b o e) (by
    cases q : H b with
    | none => rfl
    | some u =>
      rcases H1 b u q with ⟨rfl, _⟩ | ⟨rfl, hk, _⟩
      · rw [nT] at e; cases e
      · rw [hk] at e; cases e)
  have md : Mod K mg (hidT s₁.heap H) := ⟨kin0, ns0 hns, ⟨mb, ns0 hb, hbb⟩, let ⟨mc, c1, c2⟩ := hlim; ⟨mc, ns0 c1, c2⟩⟩
  have tb : LamX.TabB (hidT s₁.heap H) mg c T := by
    obtain ⟨o, us, file, tf, flags, tg, inF, text, tt, e1, r1, r2, r3, r⟩ := C
    obtain ⟨bm, ob, b1, b2, b3, b4, b5, b6⟩ := hbm
    refine ⟨⟨o, us, file, tf, flags, tg, inF, text, tt, hidT_get e1 (other e1 (fun z => ?_) fun _ _ z => ?_), r1, r2, r3, r⟩, ⟨bm, ob, b1, b2, fun q => ?_, fun q => ?_, hidT_get b3 (other b3 (by rw [b6]; exact fun z => nomatch z) fun _ _ => by rw [b6]; exact fun z => nomatch z), b4, b5, b6⟩, fun z => ?_⟩
    · rw [r2] at z
      cases z
      simp at r3
    · rw [r2] at z; cases z
    · obtain ⟨o2, es, ep, e, hd, _⟩ := hns
      rw [q, e] at b3
      cases b3
      rw [hd] at b6; cases b6
    · rw [q, hT] at b3
      cases b3
      cases b6
    · obtain ⟨o2, es, ep, e, hd, _⟩ := hns
      rw [z, hT] at e
      cases e
      cases hd
  have e0 : Env0 P w K mg (hidT s₁.heap H) callerA [] s₁ H := ⟨rfl, md, fun b o e => of_hidT e, Nat.le_of_eq (hidT_size _ _), trivial, fun b hb => absurd (show b ∈ ([] : List Addr) from hb) (by simp), ok, .of_eq hg⟩
  have go := (F _ kin0 (ns0 hns) tb).run callerA rfl [] s₁ H ⟨[.ref a], []⟩ [.ref a] [.ref a] _ _ hr e0 (hbind s₁ (.ref a)) (.cons rfl .nil) (hsp H HT seq)
  refine codeAny_mono go fun r s' h => ?_
  match r, h with
  | .error e, h => exact (hCX H e s' h).elim
  | .ok (.ret u), ⟨v, H', os, bare, un, hok', r', q⟩ =>
    have q' : v = .bl true := q
    subst q'
    cases (show u = Value.bool true from r')
    have key : ∀ b o, b ≠ T → s₁.heap.get? b = some o → s'.heap.get? b = some o := fun b o n e => by
      cases q : H b with
      | none => exact un.keep b o e q (fun z => absurd (show b ∈ ([] : List Addr) from z) (by simp)) (by simp)
      | some u =>
        rcases H1 b u q with ⟨z, _⟩ | ⟨rfl, _, rfl⟩
        · exact absurd z n
        · have w2 := (hok' _ _ (un.frzs _ _ _ q)).1
          rw [ha] at e
          cases e
          exact w2
    obtain ⟨more, em⟩ := un.tbls T #[] HT
    have grown : s'.heap.get? T = some { cls := .none, data := .fields (#[] ++ more) } := hok' T _ em
    refine ⟨rfl, ⟨fun b o e => ?_, fun b o e => ?_⟩, os, bare⟩
    · by_cases c0 : b = T
      · subst c0
        rw [hT] at e
        cases e
        exact .inr (.inl ⟨(C.tab hT).isCodeTable, rfl, #[], more, rfl, grown⟩)
      · exact .inl (key b o c0 e)
    · by_cases c0 : b = T
      · rw [c0]; exact ⟨_, grown⟩
      · exact ⟨o, key b o c0 e⟩
/-- a def that makes lambdas: its code object at c, its table at T, one of those that the head keeps -/
theorem walk_ofTG {l : PySem.W.OpenLaw} {n k : Nat} {q : Program} {loose : List Str} {XP : (Str → Option Value) → Heap → Prop} {YP : World → Heap → Prop} {d : DefRec} {K : Params → PySem.W.Frag} {CX : World → CXT} {x : Str} {ts : List Addr}
    (hn : l.most = some n) (hn2 : n ≤ sizeLine) (hdf : d.params.defaults = []) (hr : Room k callerA)
    (hY : ∀ (w : World) (h : Heap), YP w h → (K w.params).In h) (hTs : ∀ (w : World) (h : Heap), YP w h → ∀ T ∈ ts, h.get? T = some (PySem.W.tabObj #[]))
    (F : ∀ (w : World) (mg : Str → Option Value) (fa : Addr) (h : Heap), (K w.params).In h → h.Ns mainGlobals mg → mg d.name = some (.ref fa) → XP mg h →
      ∃ (c T : Addr) (fd : FuncData) (sp : Sp), T ∈ ts ∧ PySem.W.codeHdIn (K w.params) c T = true ∧ (K w.params).lookup T = none ∧ (∀ (s : Shared) (u : Value), BindsTo s fd ⟨[u], []⟩ [(x, u)]) ∧
        (∀ (H : Hp) (a : Addr) (ns : List Int), ns.length ≤ n → H T = some (.tbl #[]) → SqL (K w.params) H a (ns.map V.int) → sp [.ref a] H (fun v _ => v = .bl true) fun _ _ _ => False) ∧
        ∀ base : Heap, (K w.params).In base → base.Ns mainGlobals mg → LamX.TabB base mg c T → FnG l.prog w (K w.params) mg base (CX w) k fa fd [x] sp)
    (hCX : ∀ (w : World) (H : Hp) (s : Shared) (e : Value) (s' : Shared), CX w [] H s (fun _ _ _ => False) e s' → False) :
    PySem.W.WalkO q loose XP YP l.row.toRowW d [] (fun f vs => PySem.call f vs) :=
  Att.attach_call hn hdf fun w _ s₁ mg mb fa _ _ _ _ a vs ns G Y _ _ _ hmg hobj hints hlen hg =>
    let ⟨_, _, _, _, hm, hc, nT, hb, hsp, hF⟩ := F w mg fa _ (hY w _ Y) G.T.g hmg G.X
    law_callTG (hY w _ Y) G.T.g G.T.b G.T.builtins G.T.nolimit hg (hTs w _ Y _ hm) nT (PySem.W.codeHd_of_K (hY w _ Y) hc) G.T.bmain hobj hints (Nat.le_trans hlen hn2) hr hF hb (fun H h1 hS => hsp H a ns hlen h1 hS) fun H e s' => hCX w H s₁ e s'
end Jg

namespace K08
open PySem PySem.Spec PyProof.Rows L2 Jg
local macro_rules | `(tactic| walk_at "rd1") => `(tactic| (first
  | refine ⟨_, rfl, ?_⟩
  | refine ⟨_, _, rfl, rfl, ?_⟩
  | refine ⟨_, _, rfl, ?_⟩
  | refine ⟨rfl, ?_⟩
  | (refine ⟨show (0 : Int) < _ by omega, ?_⟩)
  | (refine ⟨Or.inl ⟨by omega, by omega⟩, ?_⟩)
  | (refine ⟨Or.inr ⟨by omega, by omega⟩, ?_⟩)
  | (refine ⟨(⟨by decide, by decide, by decide⟩ : CPow _ _), ?_⟩)
  | refine Or.inl ⟨_, rfl, ?_⟩
  | refine Or.inr ⟨_, rfl, ?_⟩
  | fail "rd"))
local macro_rules | `(tactic| walk_at "rd") => `(tactic| repeat' walk_at "rd1")


/-! ### a lambda is called; what it raises is told -/
structure TstF (K : PySem.W.Frag) (mg : Str → Option Value) (CU CI CK CG : Addr) : Prop where
  gG : mg "GapError" = some (.ref CG)
  xIU : PySem.W.exmOne K (.ref CI) (.ref CU) = some false
  xKU : PySem.W.exmOne K (.ref CK) (.ref CU) = some false
  xKI : PySem.W.exmOne K (.ref CK) (.ref CI) = some false
  kKG : PySem.W.kitOne K (.ref CK) (.ref CG) = some true
def ExF (K : PySem.W.Frag) (CU CI CK : Addr) (Q : VK) : XK := fun cls d H =>
  (∃ dd y tx, cls = .ref CU ∧ d = some dd ∧ H dd = some (.xd [(("name" : Str), y)]) ∧ Shw K H y tx ∧ ∀ l, H l = none → Q (.ref l) (upd H l (.lst [.str "name", .str tx]))) ∨
  (∃ dd z, cls = .ref CI ∧ d = some dd ∧ H dd = some (.xd [(("part" : Str), .str z)]) ∧ ∀ l, H l = none → Q (.ref l) (upd H l (.lst [.str "part", .str z]))) ∨
  (∃ dd y tx, cls = .ref CK ∧ d = some dd ∧ H dd = some (.xd [(("value" : Str), y)]) ∧ Shw K H y tx ∧ ∀ l, H l = none → Q (.ref l) (upd H l (.lst [.str "keys", .str tx, .bl true])))
def TTF (K : PySem.W.Frag) (CU CI CK : Addr) : (XK → Hp → VK → Prop) → Hp → VK → Prop := fun tl H Q => tl (ExF K CU CI CK Q) H fun _ H' => Q (.str "none") H'
def tTry (tb : WX → TS) (w : Ends → WX) : TS := fun D σ H => tb (w D) D σ H
theorem ps_tryT {X : Cx} {Wout : WX} {body : List Stmt} {h₀ : ExceptHandler} {hds : List ExceptHandler} {w : Ends → WX} {pos : Pos} {tb : WX → TS} (hd : Hds X Wout (h₀ :: hds) w) (hs : X.stack = X.env :: X.outer) (fr : X.env.frame = some X.env.locals) (hN : X.N.Nodup) (tk : Takes X Wout)
    (hb : ∀ (W : WX) (pn : List (Addr × Obj)) (xe : Value → Shared → Prop), Takes (X.tr pn xe) W → PassesOwn (model X.prog X.w) X.A X.env xe → PSs (X.tr pn xe) body (tb W)) :
    PS X (.Try body (h₀ :: hds) [] [] pos) (tTry tb w) := ps_try hd hs fr hN tk hb
abbrev s_law_failed : Stmt := top 39
theorem sc_law_failed : FnScope ["call", "e"] ["call"] (defScope s_law_failed) := ⟨rfl, rfl, rfl, by decide +kernel, rfl, by decide +kernel, by decide +kernel⟩
theorem gives_failed {X : Cx} {CU CI CK CG : Addr} {st1 st2 st3 : Stmt} (T : Txt X.K X.mg) (U : ExnQ X.K X.mg "UnknownName" CU "UnknownName.__init__" st1 "name") (I : ExnQ X.K X.mg "InvalidContents" CI "InvalidContents.__init__" st2 "part") (V : ExnQ X.K X.mg "InvalidKeys" CK "InvalidKeys.__init__" st3 "value") (W9 : TstF X.K X.mg CU CI CK CG) (hr : Room 1 X.A) (g : X.A.guards = some []) (q : Str) (gg : Addr) (cdg : Value) :
    LamX.GivesTo X ["call", "e"] "_law_failed" (defScope s_law_failed) gg cdg (defBody s_law_failed) "call" q (TTF X.K CU CI CK) := by
  intro f c' s H Q tl act hc h
  have hu : (X.A.deeper (envOfC "_law_failed" (defScope s_law_failed) s.heap.objs.size gg cdg)).units + 64 < cLine := (hr.deeper _).units
  have g' : (X.A.deeper (envOfC "_law_failed" (defScope s_law_failed) s.heap.objs.size gg cdg)).guards = some [] := guards_deeper g
  have hrep : ∀ (a : Addr) (oe : Obj) (pn : List (Addr × Obj)), CallR ((cxOf CX0 X.prog X.w X.K X.mg X.base ["call", "e"] "_law_failed" (defScope s_law_failed) gg cdg X.A X.stack s H E0).nox.suite a ((a, oe) :: pn)) (.builtin "repr") (rShw X.K) := fun a oe pn => call_shw g' hu
  refine ⟨_, pss_cons (ps_tryT (X := (cxOf CX0 X.prog X.w X.K X.mg X.base ["call", "e"] "_law_failed" (defScope s_law_failed) gg cdg X.A X.stack s H E0).nox)
      (tb := fun W D σ H => ∃ Ech : XK, (∀ cls d σ' H', Ech cls d H' → σ'.length = 2 → W cls d σ' H') ∧ σ[0]? = some (some (.ref f)) ∧ H c' = some (LamX.CodeO c' q) ∧ tl Ech H fun _ H' => D.nx σ H')
      (.named (i := 1) rfl rfl ⟨rfl, by decide, .inl U.mg_⟩ (fun a oe cls d pn hz hf => pss_one (ps_ret (pe_lst (pa_cons pe_str (pa_cons (pe_callB (hrep a oe pn) (by rfl) T.b_repr (by decide +kernel) (pa_cons (pe_xf U.xk.xf U.no hz hf (pv 1)) pa_nil)) pa_nil)))))
      (.named (i := 1) rfl rfl ⟨rfl, by decide, .inl I.mg_⟩ (fun a oe cls d pn hz hf => pss_one (ps_ret (pe_lst (pa_cons pe_str (pa_cons (pe_xf I.xk.xf I.no hz hf (pv 1)) pa_nil)))))
      (.named (i := 1) rfl rfl ⟨rfl, by decide, .inl V.mg_⟩ (fun a oe cls d pn hz hf => pss_one (ps_ret (pe_lst (pa_cons pe_str (pa_cons (pe_callB (hrep a oe pn) (by rfl) T.b_repr (by decide +kernel) (pa_cons (pe_xf V.xk.xf V.no hz hf (pv 1)) pa_nil)) (pa_cons (pe_callB (call_isX V.xk hz hf) (by rfl) T.b_isinstance (by decide +kernel) (pa_cons (pv 1) (pa_cons (pe_glob (v := .ref CG) rfl W9.gG rfl) pa_nil))) pa_nil)))))) .cut)))
      rfl rfl sc_law_failed.nd takes0 (fun W pn xe tk _ => ⟨fun pins s' σ H' D I h' => by
        obtain ⟨Ech, hW, h1, h2, h3⟩ := h'
        exact (pss_one (ps_expr (act _ pn xe Ech _ _ (Jg.Takes.sized tk) hW))).run pins s' σ H' D I ⟨h1, h2, h3⟩⟩))
    (pss_one (ps_ret pe_str)), ?_⟩
  refine ⟨ExF X.K CU CI CK Q, ?_, rfl, hc, h⟩
  rintro cls d σ' H' hx ls
  obtain ⟨s0, s1, rfl⟩ : ∃ s0 s1, σ' = [s0, s1] := by
    match σ', ls with
    | [a, b], _ => exact ⟨a, b, rfl⟩
  rcases hx with ⟨dd, y, tx, rfl, rfl, ed, sh, k⟩ | ⟨dd, z, rfl, rfl, ed, k⟩ | ⟨dd, y, tx, rfl, rfl, ed, sh, k⟩
  · refine ⟨true, U.te, fun _ a na => ?_, fun z => nomatch z⟩
    exact ⟨_, rfl, rfl, rfl, dd, _, y, rfl, ed, rfl, y, tx, rfl, sh, by show 2 ≤ sizeLine; decide, fun l nl => k l nl⟩
  · refine ⟨false, W9.xIU, (fun z => nomatch z), fun _ => ⟨true, I.te, fun _ a na => ?_, fun z => nomatch z⟩⟩
    exact ⟨_, rfl, rfl, rfl, dd, _, _, rfl, ed, rfl, by show 2 ≤ sizeLine; decide, fun l nl => k l nl⟩
  · refine ⟨false, W9.xKU, (fun z => nomatch z), fun _ => ⟨false, W9.xKI, (fun z => nomatch z), fun _ => ⟨true, V.te, fun _ a na => ?_, fun z => nomatch z⟩⟩⟩
    exact ⟨_, rfl, rfl, rfl, dd, _, y, rfl, ed, rfl, y, tx, rfl, sh, _, rfl, .ref CG, .ref CG, true, dd, _, rfl, rfl, rfl, ed, fun _ z => z, W9.kKG, by show 3 ≤ sizeLine; decide, fun l nl => k l nl⟩

end K08

namespace K08
open PySem PySem.Spec PyProof.Rows L2 Jg
local macro_rules | `(tactic| walk_at "rd1") => `(tactic| (first
  | refine ⟨_, rfl, ?_⟩
  | refine ⟨_, _, rfl, rfl, ?_⟩
  | refine ⟨_, _, rfl, ?_⟩
  | refine ⟨rfl, ?_⟩
  | (refine ⟨show (0 : Int) < _ by omega, ?_⟩)
  | (refine ⟨Or.inl ⟨by omega, by omega⟩, ?_⟩)
  | (refine ⟨Or.inr ⟨by omega, by omega⟩, ?_⟩)
  | (refine ⟨(⟨by decide, by decide, by decide⟩ : CPow _ _), ?_⟩)
  | refine Or.inl ⟨_, rfl, ?_⟩
  | refine Or.inr ⟨_, rfl, ?_⟩
  | fail "rd"))
local macro_rules | `(tactic| walk_at "rd") => `(tactic| repeat' walk_at "rd1")


/-! ### what is given wrong: values that a display makes, seen without what is being made -/
theorem hid_keep {M : List Addr} {H H' : Hp} (s : Same H H') : Same (hid M H) (hid M H') := fun q o e => hid_in (s _ _ (hid_get e).1) (hid_get e).2
theorem hid_nil {H : Hp} : hid [] H = H := funext fun q => if_neg (by simp)
def Mono (P : Hp → V → Prop) : Prop := ∀ H H' v, Same H H' → P H v → P H' v
structure Gv (H0 : Hp) (σ : L2.St) (te : TE) (P : Hp → V → Prop) : Prop where
  mo : Mono P
  run : ∀ (M : List Addr) (H : Hp) (Q : VK), Same H0 (hid M H) → (∀ q ∈ M, H q ≠ none) → (∀ v H', Same H H' → P (hid M H') v → Q v H') → te σ H Q
structure GvA (H0 : Hp) (σ : L2.St) (t : TA) (Ps : List (Hp → V → Prop)) : Prop where
  mo : ∀ P ∈ Ps, Mono P
  run : ∀ (M : List Addr) (H : Hp) (Q : List V → Hp → Prop), Same H0 (hid M H) → (∀ q ∈ M, H q ≠ none) → (∀ vs H', Same H H' → Paired (fun v P => P (hid M H') v) vs Ps → Q vs H') → t σ H Q
theorem par_mono {H H' : Hp} (s : Same H H') : ∀ {vs : List V} {Ps : List (Hp → V → Prop)}, (∀ P ∈ Ps, Mono P) → Paired (fun v P => P H v) vs Ps → Paired (fun v P => P H' v) vs Ps
  | _, _, _, .nil => .nil
  | _, _, m, .cons a r => .cons (m _ List.mem_cons_self _ _ _ s a) (par_mono s (fun P h => m P (List.mem_cons_of_mem _ h)) r)
theorem par_len {F : V → (Hp → V → Prop) → Prop} : ∀ {vs : List V} {Ps : List (Hp → V → Prop)}, Paired F vs Ps → vs.length = Ps.length
  | _, _, .nil => rfl
  | _, _, .cons _ r => by rw [List.length_cons, List.length_cons, par_len r]
theorem gva_nil {H0 : Hp} {σ : L2.St} : GvA H0 σ tNil [] := ⟨(fun _ h => nomatch h), fun M H Q s n q => q [] H (.refl _) .nil⟩
theorem gva_cons {H0 : Hp} {σ : L2.St} {te : TE} {t : TA} {P : Hp → V → Prop} {Ps : List (Hp → V → Prop)} (h : Gv H0 σ te P) (r : GvA H0 σ t Ps) : GvA H0 σ (tCons te t) (P :: Ps) :=
  ⟨fun R hR => (List.mem_cons.mp hR).elim (fun e => e ▸ h.mo) (r.mo R), fun M H Q s n q => h.run M H _ s n fun v H1 s1 p1 => r.run M H1 _ (s.trans (hid_keep s1)) (fun x hx z => by
    cases c : H x with
    | none => exact n x hx c
    | some o => rw [s1 _ _ c] at z; cases z) fun vs H2 s2 p2 => q (v :: vs) H2 (s1.trans s2) (.cons (h.mo _ _ _ (hid_keep s2) p1) p2)⟩
theorem gv_c {H0 : Hp} {σ : L2.St} {v : V} {P : Hp → V → Prop} (mo : Mono P) (h : ∀ H, Same H0 H → P H v) : Gv H0 σ (tC v) P := ⟨mo, fun M H Q s _ q => q v H (.refl _) (h _ s)⟩
theorem gv_v {H0 : Hp} {σ : L2.St} {i : Nat} {v : V} {P : Hp → V → Prop} (e : σ[i]? = some (some v)) (mo : Mono P) (h : ∀ H, Same H0 H → P H v) : Gv H0 σ (tVar i) P := ⟨mo, fun M H Q s _ q => ⟨v, e, q v H (.refl _) (h _ s)⟩⟩
theorem Gv.imp {H0 : Hp} {σ : L2.St} {te : TE} {P P' : Hp → V → Prop} (h : Gv H0 σ te P) (mo : Mono P') (i : ∀ H v, Same H0 H → P H v → P' H v) : Gv H0 σ te P' := ⟨mo, fun M H Q s n q => h.run M H Q s n fun v H' s' p => q v H' s' (i _ v (s.trans (hid_keep s')) p)⟩
theorem out_new {M : List Addr} {H : Hp} {p : Addr} (n : ∀ q ∈ M, H q ≠ none) (np : H p = none) : p ∉ M := fun h => n p h np
/-- a new object -/
theorem gv_new {H0 : Hp} {σ : L2.St} {te : TE} {P : Hp → V → Prop} {o : HO} (mo : Mono P) (h : ∀ H Q, (∀ p, H p = none → Q (.ref p) (upd H p o)) → te σ H Q) (k : ∀ H p, H p = some o → P H (.ref p)) : Gv H0 σ te P :=
  ⟨mo, fun M H Q s n q => h H Q fun p np => q _ _ (same_new np) (k _ _ (hid_in upd_same (out_new n np)))⟩
theorem gv_seq {H0 : Hp} {σ : L2.St} {te : TE} {t : TA} {P : Hp → V → Prop} {Ps : List (Hp → V → Prop)} {o : List V → HO} (mo : Mono P) (h : GvA H0 σ t Ps)
    (ht : ∀ H Q, t σ H (fun xs H1 => xs.length ≤ sizeLine ∧ ∀ p, H1 p = none → Q (.ref p) (upd H1 p (o xs))) → te σ H Q) (few : Ps.length ≤ 1000) (k : ∀ H p vs, Same H0 H → H p = some (o vs) → Paired (fun v P => P H v) vs Ps → P H (.ref p)) : Gv H0 σ te P :=
  ⟨mo, fun M H Q s n q => ht H Q (h.run M H _ s n fun vs H1 s1 p1 => ⟨by rw [par_len p1, sizeLine_eq]; omega, fun p np => q _ _ (same_new' s1 np) (k _ _ vs (s.trans (hid_keep (same_new' s1 np))) (hid_in upd_same (fun z => n p z (s1.free np))) (par_mono (hid_keep (same_new np)) h.mo p1))⟩)⟩
theorem gv_lst {H0 : Hp} {σ : L2.St} {t : TA} {P : Hp → V → Prop} {Ps : List (Hp → V → Prop)} (mo : Mono P) (h : GvA H0 σ t Ps) (few : Ps.length ≤ 1000) (k : ∀ H p vs, Same H0 H → H p = some (.lst vs) → Paired (fun v P => P H v) vs Ps → P H (.ref p)) : Gv H0 σ (tLst t) P :=
  gv_seq (o := .lst) mo h (fun _ _ z => z) few k
theorem gv_tup {H0 : Hp} {σ : L2.St} {t : TA} {P : Hp → V → Prop} {Ps : List (Hp → V → Prop)} (mo : Mono P) (h : GvA H0 σ t Ps) (few : Ps.length ≤ 1000) (k : ∀ H p vs, Same H0 H → H p = some (.tup vs) → Paired (fun v P => P H v) vs Ps → P H (.ref p)) : Gv H0 σ (tTup t) P :=
  gv_seq (o := .tup) mo h (fun _ _ z => z) few k
/-! ### keys that are none -/
theorem keys_no {K : PySem.W.Frag} {H : Hp} {y : V} {m : Int} {t : Value} (ty : ∀ H', Same H H' → TyX K H' y t) (k1 : kit K t "list" false) (k2 : kit K t "tuple" false) : KeysIs K H y m false := fun H' Q s q => ⟨y, m, rfl, .inr ⟨t, fun H2 s2 => ty H2 (s.trans s2), k1, k2, q⟩⟩
theorem keys_lst {K : PySem.W.Frag} {H : Hp} {l : Addr} {m : Int} {xs : List V} (e : H l = some (.lst xs)) (few : xs.length ≤ 500) (its : ∀ x ∈ xs, ItOk K H x) : KeysIs K H (.ref l) m (keysB xs m) := fun H' Q s q =>
  ⟨_, m, rfl, .inl ⟨l, true, xs, rfl, SqL.of (s _ _ e), fun H2 s2 => .base (.lst (s2 _ _ (s _ _ e))), few, fun x hx => (its x hx).keep s, q⟩⟩
theorem keys_tup {K : PySem.W.Frag} {H : Hp} {l : Addr} {m : Int} {xs : List V} (e : H l = some (.tup xs)) (few : xs.length ≤ 500) (its : ∀ x ∈ xs, ItOk K H x) : KeysIs K H (.ref l) m (keysB xs m) := fun H' Q s q =>
  ⟨_, m, rfl, .inl ⟨l, false, xs, rfl, SqT.of (s _ _ e), fun H2 s2 => .base (.tup (s2 _ _ (s _ _ e))), few, fun x hx => (its x hx).keep s, q⟩⟩
theorem keysB_bad {xs : List V} {m : Int} {x : V} (h : x ∈ xs) (f : flagV x = false) : keysB xs m = false := by
  unfold keysB
  have e : xs.all flagV = false := by
    cases c : xs.all flagV with
    | false => rfl
    | true => have z := List.all_eq_true.mp c x h; rw [f] at z; cases z
  rw [e]; simp
theorem keysB_big {xs : List V} {m : Int} (h : m < (xs.length : Int)) : keysB xs m = false := by
  unfold keysB
  rw [decide_eq_true h]; rfl
theorem keysB_twice {z : Str} {m : Int} : keysB [.str z, .str z] m = false := by
  unfold keysB
  have e : ¬ (onceW ([V.str z, V.str z].map txV)).length = [V.str z, V.str z].length := fun h => by
    have nd := ((onceW_all [z, z] []).mp (by simpa [onceW, txV] using h)).1
    simp at nd
  rw [decide_eq_false e]; simp
theorem keysB_one {z : Str} {m : Int} (h : wordB z = true) (hm : 1 ≤ m) : keysB [.str z] m = true := by
  unfold keysB
  have e : (onceW ([V.str z].map txV)).length = [V.str z].length := rfl
  rw [decide_eq_true e, decide_eq_false (by show ¬ m < ((1 : Nat) : Int); omega)]
  show (true && (([V.str z].all flagV) && true)) = true
  rw [show ([V.str z].all flagV) = (wordB z && true) from rfl, h]; rfl
theorem mono_keys {K : PySem.W.Frag} {m : Int} {fl : Bool} : Mono (fun H v => KeysIs K H v m fl) := fun _ _ _ s h => h.keep s
theorem mono_odd {K : PySem.W.Frag} : Mono (fun H v => v ≠ .non ∧ KeysIs K H v 4 false) := fun _ _ _ s h => ⟨h.1, h.2.keep s⟩
theorem mono_eq {y : V} : Mono (fun _ v => v = y) := fun _ _ _ _ h => h
/-- no key at all -/
structure BadV (K : PySem.W.Frag) (H : Hp) (y : V) : Prop where
  it : ItOk K H y
  fl : flagV y = false
  wd : WordIs K H y false
theorem BadV.keep {K : PySem.W.Frag} {H H' : Hp} {y : V} (h : BadV K H y) (s : Same H H') : BadV K H' y := ⟨h.it.keep s, h.fl, h.wd.keep s⟩
theorem mono_bad {K : PySem.W.Frag} : Mono (BadV K) := fun _ _ _ s h => h.keep s
theorem bad_str {K : PySem.W.Frag} {H : Hp} {z : Str} (hz : z.length ≤ sizeLine) (h : wordB z = false) : BadV K H (.str z) := ⟨.inl ⟨z, rfl, hz⟩, h, .inl ⟨z, rfl, hz, h.symm⟩⟩
theorem bad_ty {K : PySem.W.Frag} {H : Hp} {y : V} {t : Value} (ty : ∀ H', Same H H' → TyX K H' y t) (k : kit K t "str" false) (n : ∀ z, y ≠ .str z) : BadV K H y := ⟨.inr ⟨t, ty, k, n⟩, by
  cases y with
  | str z => exact absurd rfl (n z)
  | _ => rfl, .inr ⟨rfl, t, ty, k⟩⟩
theorem gva_go {H0 : Hp} {σ : L2.St} {t : TA} {Ps : List (Hp → V → Prop)} {Q : List V → Hp → Prop} (g : GvA H0 σ t Ps) (k : ∀ vs H', Same H0 H' → Paired (fun v P => P H' v) vs Ps → Q vs H') : t σ H0 Q :=
  g.run [] H0 Q (by rw [hid_nil]; exact .refl _) (fun _ h => nomatch h) fun vs H' s p => k vs H' s (by rw [hid_nil] at p; exact p)
theorem par_rep {H : Hp} {P : Hp → V → Prop} : ∀ {n : Nat} {vs : List V}, Paired (fun v P => P H v) vs (List.replicate n P) → ∀ v ∈ vs, P H v
  | 0, _, .nil, _, h => nomatch h
  | n + 1, _, .cons a r, v, h => (List.mem_cons.mp h).elim (fun e => e ▸ a) (par_rep r v)
theorem gvl_go {H0 : Hp} {σ : L2.St} {t : TA} {Ps : List (Hp → V → Prop)} {Q : VK} (g : GvA H0 σ t Ps) (few : Ps.length ≤ 1000) (k : ∀ l vs H', H0 l = none → Same H0 H' → H' l = some (.lst vs) → Paired (fun v P => P H' v) vs Ps → Q (.ref l) H') : tLst t σ H0 Q :=
  gva_go g fun vs H1 s1 p => ⟨by rw [par_len p, sizeLine_eq]; omega, fun l nl => k l vs _ (s1.free nl) (same_new' s1 nl) upd_same (par_mono (same_new nl) g.mo p)⟩
/-! ### a heap without its tables -/
def noT (H : Hp) : Hp := fun b => match H b with | some (.tbl _) => none | o => o
theorem noT_at {H : Hp} {p : Addr} {o : HO} (h : H p = some o) (n : ∀ ps, o ≠ .tbl ps) : noT H p = some o := by
  unfold noT
  rw [h]
  cases o with
  | tbl ps => exact absurd rfl (n ps)
  | _ => rfl
theorem noT_get {H : Hp} {p : Addr} {o : HO} (h : noT H p = some o) : H p = some o ∧ ∀ ps, o ≠ .tbl ps := by
  unfold noT at h
  cases e : H p with
  | none => rw [e] at h; cases h
  | some u =>
    rw [e] at h
    cases u with
    | tbl ps => cases h
    | _ => (cases h; exact ⟨rfl, fun ps z => nomatch z⟩)
theorem noT_same {H : Hp} : Same (noT H) H := fun b o e => (noT_get e).1
theorem noT_keep {H H' : Hp} (s : Same H H') : Same (noT H) (noT H') := fun b o e => noT_at (s _ _ (noT_get e).1) (noT_get e).2
theorem noT_ext {H H' : Hp} (s : LamX.ExtN H H') : Same (noT H) (noT H') := fun b o e => noT_at (s _ _ (noT_get e).1 (noT_get e).2) (noT_get e).2
theorem noT_of {H H' : Hp} (s : Same (noT H) (noT H')) : LamX.ExtN H H' := fun b o e n => (noT_get (s _ _ (noT_at e n))).1
theorem Tabs.same {T : List (Addr × Str)} {H H' : Hp} (t : LamX.Tabs T H) (s : Same H H') : LamX.Tabs T H' := LamX.Tabs.ext t s
def Mo (P : Hp → V → Prop) : Hp → V → Prop := fun H v => P (noT H) v
theorem mono_mo {P : Hp → V → Prop} (h : Mono P) : Mono (Mo P) := fun _ _ _ s q => h _ _ _ (noT_keep s) q
/-! ### values that are none -/
theorem okd {x : Str} (h : PyData.strOk x = true) : okW x := h
def ShwF (K : PySem.W.Frag) (H : Hp) (y : V) : Prop := ∃ tx, okW tx ∧ ∀ H', Same H H' → Shw K H' y tx
theorem ShwF.keep {K : PySem.W.Frag} {H H' : Hp} {y : V} (h : ShwF K H y) (s : Same H H') : ShwF K H' y := let ⟨t, o, k⟩ := h; ⟨t, o, fun H2 s2 => k H2 (s.trans s2)⟩
theorem NoKl.keep {K : PySem.W.Frag} {H H' : Hp} {y : V} (h : NoKl K H y) (s : Same H H') : NoKl K H' y := by
  rcases h with ⟨a, xs, rfl, e, l, its, f⟩ | ⟨t, ty, k⟩
  · exact .inl ⟨a, xs, rfl, s _ _ e, l, fun x hx => (its x hx).keep s, f⟩
  · exact .inr ⟨t, fun H2 s2 => ty H2 (s.trans s2), k⟩
def P1 (K : PySem.W.Frag) (c : Ct) : Hp → V → Prop := fun H y => NoRole K H c y ∧ ShwF K H y
def P2 (K : PySem.W.Frag) : Hp → V → Prop := fun H y => y ≠ .non ∧ KeysIs K H y 8 false
def P3 (K : PySem.W.Frag) : Hp → V → Prop := fun H y => NoKl K H y ∧ ShwF K H y
theorem mono_1 {K : PySem.W.Frag} {c : Ct} : Mono (P1 K c) := fun _ _ _ s h => ⟨h.1.keep s, h.2.keep s⟩
theorem mono_2 {K : PySem.W.Frag} : Mono (P2 K) := fun _ _ _ s h => ⟨h.1, h.2.keep s⟩
theorem mono_3 {K : PySem.W.Frag} : Mono (P3 K) := fun _ _ _ s h => ⟨h.1.keep s, h.2.keep s⟩
theorem it_str {K : PySem.W.Frag} {H : Hp} {z : Str} (h : z.length ≤ sizeLine) : ItOk K H (.str z) := .inl ⟨z, rfl, h⟩
theorem it_ty {K : PySem.W.Frag} {H : Hp} {x : V} {t : Value} (ty : ∀ H', Same H H' → TyX K H' x t) (k : kit K t "str" false) (n : ∀ z, x ≠ .str z) : ItOk K H x := .inr ⟨t, ty, k, n⟩
section
variable {K : PySem.W.Frag} {H0 : Hp} {σ : L2.St}
theorem vals1_ {c : Ct} {z : Str} (ok : CtOk c) (wz : Wd z) (e : σ[1]? = some (some (.str z))) : GvA H0 σ (tCons (tC .non) (tCons (tC (.int 5)) (tCons (tTup tNil) (tCons (tLst (tCons (tVar 1) tNil)) (tCons (tC (.str "zzzzzzzzz")) tNil))))) (List.replicate 5 (Mo (P1 K c))) := by
  have m := mono_mo (mono_1 (K := K) (c := c))
  refine gva_cons (gv_c m fun H _ => ⟨.inr ⟨_, fun _ _ => .base .non, kit_ty (by decide +kernel)⟩, _, okd (by decide +kernel), fun _ _ => .non⟩) ?_
  refine gva_cons (gv_c m fun H _ => ⟨.inr ⟨_, fun _ _ => .base (.int _), kit_ty (by decide +kernel)⟩, _, okd (by decide +kernel), fun _ _ => .int 5 (by decide +kernel)⟩) ?_
  refine gva_cons (gv_tup m gva_nil (by simp) fun H q vs s eq h => ?_) ?_
  · cases h
    have eq := noT_at eq fun _ z => nomatch z
    exact ⟨.inr ⟨_, fun H' s' => .base (.tup (s' _ _ eq)), kit_ty (by decide +kernel)⟩, _, okd (by decide +kernel), fun H' s' => .dat (.tup (SqT.of (s' _ _ eq)) .nil) (by decide +kernel) (by decide +kernel) (by decide +kernel)⟩
  refine gva_cons (gv_lst m (gva_cons (gv_v e (mono_eq (y := .str z)) (fun _ _ => rfl)) gva_nil) (by simp) fun H q vs s eq h => ?_) ?_
  · obtain ⟨v, rfl, hv⟩ : ∃ v, vs = [v] ∧ v = .str z := by
      cases h with | cons a r => cases r; exact ⟨_, rfl, a⟩
    subst hv
    have eq := noT_at eq fun _ z => nomatch z
    have sh := ((Jg.SbAll.cons wz.sb (Jg.SbAll.nil (n := 0))).list).ask (by decide) (by decide)
    exact ⟨.inr ⟨_, fun H' s' => .base (.lst (s' _ _ eq)), kit_ty (by decide +kernel)⟩, _, (fc_list (ds := [.str z]) fun d hd => by rw [List.mem_singleton.mp hd]; exact fc_str (az_low wz.1)).ok, fun H' s' => .dat (.lst (SqL.of (s' _ _ eq)) (.cons (.str z) .nil)) sh.1 sh.2.1 sh.2.2⟩
  refine gva_cons (gv_c m fun H _ => ⟨.inl ⟨_, rfl, (by decide +kernel), fun hm => ?_⟩, _, okd (by decide +kernel), fun _ _ => .str "zzzzzzzzz" (by decide +kernel)⟩) gva_nil
  obtain ⟨r, hr, er⟩ := List.mem_map.mp hm
  have w := (ok.us r hr).2.1
  rw [er] at w
  exact absurd w (by decide +kernel)
theorem vals2_ : GvA H0 σ (tCons (tC (.int 5)) (tCons (tC (.str "ab")) (tCons (tLst (tCons (tC (.str "A")) tNil)) (tCons (tLst (tCons (tC (.str "a")) (tCons (tC (.str "a")) tNil))) (tCons (tCB (fun xs H Q => ∃ z : Str, xs = [.str z] ∧ z.length ≤ sizeLine ∧ ∀ p, H p = none → Q (.ref p) (upd H p (.lst (z.cps.toList.map fun c => V.str ⟨#[c]⟩)))) (tCons (tC (.str "abcdefghi")) tNil)) tNil))))) (List.replicate 5 (Mo (P2 K))) := by
  have m := mono_mo (mono_2 (K := K))
  refine gva_cons (gv_c m fun H _ => ⟨(fun z => nomatch z), keys_no (fun _ _ => .base (.int _)) (kit_ty (by decide +kernel)) (kit_ty (by decide +kernel))⟩) ?_
  refine gva_cons (gv_c m fun H _ => ⟨(fun z => nomatch z), keys_no (fun _ _ => .base (.str _)) (kit_ty (by decide +kernel)) (kit_ty (by decide +kernel))⟩) ?_
  have go : ∀ {H : Hp} {q : Addr} {xs : List V}, H q = some (.lst xs) → xs.length ≤ 500 → (∀ x ∈ xs, ∃ z, x = V.str z ∧ z.length ≤ sizeLine) → keysB xs 8 = false → Mo (P2 K) H (.ref q) := fun {H q xs} e l w k => by
    have e := noT_at e fun _ z => nomatch z
    have z := keys_lst (K := K) (m := 8) e l fun x hx => by
      obtain ⟨z, rfl, hz⟩ := w x hx
      exact it_str hz
    rw [k] at z
    exact ⟨(fun z => nomatch z), z⟩
  refine gva_cons (gv_lst m (gva_cons (gv_c (mono_eq (y := .str "A")) (fun _ _ => rfl)) gva_nil) (by simp) fun H q vs s eq h => ?_) ?_
  · obtain ⟨v, rfl, rfl⟩ : ∃ v, vs = [v] ∧ v = .str "A" := by
      cases h with | cons a r => cases r; exact ⟨_, rfl, a⟩
    exact go eq (by simp) (fun x hx => ⟨_, List.mem_singleton.mp hx, by decide +kernel⟩) (keysB_bad List.mem_cons_self (by decide +kernel))
  refine gva_cons (gv_lst m (gva_cons (gv_c (mono_eq (y := .str "a")) (fun _ _ => rfl)) (gva_cons (gv_c (mono_eq (y := .str "a")) (fun _ _ => rfl)) gva_nil)) (by simp) fun H q vs s eq h => ?_) ?_
  · obtain ⟨v, w, rfl, rfl, rfl⟩ : ∃ v w, vs = [v, w] ∧ v = .str "a" ∧ w = .str "a" := by
      cases h with | cons a r => cases r with | cons b r => cases r; exact ⟨_, _, rfl, a, b⟩
    exact go eq (by simp) (fun x hx => ⟨"a", by simpa using hx, by decide +kernel⟩) keysB_twice
  refine gva_cons (gv_new (o := .lst (("abcdefghi" : Str).cps.toList.map fun c => V.str ⟨#[c]⟩)) m (fun H Q q => ⟨_, rfl, (by decide +kernel), q⟩) fun H p e => ?_) gva_nil
  refine go e (by rw [List.length_map]; decide +kernel) (fun x hx => ?_) (keysB_big (by rw [List.length_map]; decide +kernel))
  obtain ⟨c, _, rfl⟩ := List.mem_map.mp hx
  exact ⟨_, rfl, by show 1 ≤ sizeLine; decide⟩
theorem kl_no {H : Hp} {q : Addr} {xs : List V} {d : PyData} {ds : List PyData} (e : H q = some (.lst xs)) (l : xs.length ≤ 500) (its : ∀ H', Same (noT H) H' → ∀ x ∈ xs, ItOk K H' x) (k : xs.all flagV = false) (ed : d = .list ds) (dp : ∀ H', Same (noT H) H' → DpAll K H' xs ds) (o : okW d.shown) (s1 : d.showable = true) (s2 : d.depth ≤ 40) (s3 : d.shown.length ≤ sizeLine) : Mo (P3 K) H (.ref q) := by
  have e := noT_at e fun _ z => nomatch z
  subst ed
  exact ⟨.inl ⟨q, xs, rfl, e, l, its _ (.refl _), k⟩, _, o, fun H' s => .dat (.lst (SqL.of (s _ _ e)) (dp H' s)) s1 s2 s3⟩
theorem vals3_ : GvA H0 σ (tCons (tC .non) (tCons (tC (.str "ab")) (tCons (tTup (tCons (tC (.str "a")) tNil)) (tCons (tLst (tCons (tC (.str "a")) (tCons (tC (.int 5)) tNil))) (tCons (tLst (tCons (tC .non) tNil)) (tCons (tLst (tCons (tLst (tCons (tC (.str "a")) tNil)) tNil)) (tCons tDNewK tNil))))))) (List.replicate 7 (Mo (P3 K))) := by
  have m := mono_mo (mono_3 (K := K))
  have one : ∀ {v : V}, GvA H0 σ (tCons (tC v) tNil) [fun _ x => x = v] := fun {v} => gva_cons (gv_c (mono_eq (y := v)) (fun _ _ => rfl)) gva_nil
  have o1 : ∀ {F : (V → (Hp → V → Prop) → Prop)} {vs : List V} {P : Hp → V → Prop}, Paired F vs [P] → ∃ v, vs = [v] ∧ F v P := fun h => by
    cases h with | cons a r => cases r; exact ⟨_, rfl, a⟩
  refine gva_cons (gv_c m fun H _ => ⟨.inr ⟨_, fun _ _ => .base .non, kit_ty (by decide +kernel)⟩, _, okd (by decide +kernel), fun _ _ => .non⟩) ?_
  refine gva_cons (gv_c m fun H _ => ⟨.inr ⟨_, fun _ _ => .base (.str _), kit_ty (by decide +kernel)⟩, _, okd (by decide +kernel), fun _ _ => .str "ab" (by decide +kernel)⟩) ?_
  refine gva_cons (gv_tup m one (by simp) fun H q vs s eq h => ?_) ?_
  · obtain ⟨v, rfl, rfl⟩ := o1 h
    have eq := noT_at eq fun _ z => nomatch z
    exact ⟨.inr ⟨_, fun H' s' => .base (.tup (s' _ _ eq)), kit_ty (by decide +kernel)⟩, _, okd (by decide +kernel), fun H' s' => .dat (.tup (SqT.of (s' _ _ eq)) (.cons (.str "a") .nil)) (by decide +kernel) (by decide +kernel) (by decide +kernel)⟩
  refine gva_cons (gv_lst m (gva_cons (gv_c (mono_eq (y := .str "a")) (fun _ _ => rfl)) (gva_cons (gv_c (mono_eq (y := .int 5)) (fun _ _ => rfl)) gva_nil)) (by simp) fun H q vs s eq h => ?_) ?_
  · obtain ⟨v, w, rfl, rfl, rfl⟩ : ∃ v w, vs = [v, w] ∧ v = .str "a" ∧ w = .int 5 := by
      cases h with | cons a r => cases r with | cons b r => cases r; exact ⟨_, _, rfl, a, b⟩
    refine kl_no (ds := [.str "a", .int 5]) eq (by simp) (fun H' _ x hx => ?_) (by decide +kernel) rfl (fun _ _ => .cons (.str "a") (.cons (.int 5) .nil)) (okd (by decide +kernel)) (by decide +kernel) (by decide +kernel) (by decide +kernel)
    simp only [List.mem_cons, List.not_mem_nil, or_false] at hx
    rcases hx with rfl | rfl
    · exact it_str (by decide +kernel)
    · exact it_ty (fun _ _ => .base (.int _)) (kit_ty (by decide +kernel)) (fun z q => nomatch q)
  refine gva_cons (gv_lst m one (by simp) fun H q vs s eq h => ?_) ?_
  · obtain ⟨v, rfl, rfl⟩ := o1 h
    refine kl_no (ds := [.none]) eq (by simp) (fun H' _ x hx => ?_) (by decide +kernel) rfl (fun _ _ => .cons .non .nil) (okd (by decide +kernel)) (by decide +kernel) (by decide +kernel) (by decide +kernel)
    rw [List.mem_singleton.mp hx]
    exact it_ty (fun _ _ => .base .non) (kit_ty (by decide +kernel)) (fun z q => nomatch q)
  refine gva_cons (gv_lst m (gva_cons (gv_lst (P := fun H v => ∃ a, v = .ref a ∧ noT H a = some (.lst [.str "a"])) (fun _ _ _ s ⟨a, e, h⟩ => ⟨a, e, noT_keep s _ _ h⟩) one (by simp) fun H q vs s eq h => ?_) gva_nil) (by simp) fun H q vs s eq h => ?_) ?_
  · obtain ⟨v, rfl, rfl⟩ := o1 h
    exact ⟨q, rfl, noT_at eq fun _ z => nomatch z⟩
  · obtain ⟨v, rfl, a, rfl, ea⟩ := o1 h
    refine kl_no (ds := [.list [.str "a"]]) eq (by simp) (fun H' s' x hx => ?_) (by show (false && true) = false; rfl) rfl (fun H' s' => .cons (.lst (SqL.of (s' _ _ ea)) (.cons (.str "a") .nil)) .nil) (okd (by decide +kernel)) (by decide +kernel) (by decide +kernel) (by decide +kernel)
    rw [List.mem_singleton.mp hx]
    exact it_ty (fun H2 s2 => .base (.lst (s2 _ _ (s' _ _ ea)))) (kit_ty (by decide +kernel)) (fun z q => nomatch q)
  refine gva_cons (gv_new (o := .dK []) m (fun _ _ h => h) fun H p e => ?_) gva_nil
  have e := noT_at e fun _ z => nomatch z
  exact ⟨.inr ⟨_, fun H' s' => .base (.dK (s' _ _ e)), kit_ty (by decide +kernel)⟩, _, okd (by decide +kernel), fun H' s' => .dnew (s' _ _ e)⟩
end

end K08

namespace K08
open PySem PySem.Spec PyProof.Rows L2 Jg
local macro_rules | `(tactic| walk_at "rd1") => `(tactic| (first
  | refine ⟨_, rfl, ?_⟩
  | refine ⟨_, _, rfl, rfl, ?_⟩
  | refine ⟨_, _, rfl, ?_⟩
  | refine ⟨rfl, ?_⟩
  | (refine ⟨show (0 : Int) < _ by omega, ?_⟩)
  | (refine ⟨Or.inl ⟨by omega, by omega⟩, ?_⟩)
  | (refine ⟨Or.inr ⟨by omega, by omega⟩, ?_⟩)
  | (refine ⟨(⟨by decide, by decide, by decide⟩ : CPow _ _), ?_⟩)
  | refine Or.inl ⟨_, rfl, ?_⟩
  | refine Or.inr ⟨_, rfl, ?_⟩
  | fail "rd"))
local macro_rules | `(tactic| walk_at "rd") => `(tactic| repeat' walk_at "rd1")


/-! ### what is wrong is refused -/
theorem bd_failed : BindOk "_law_failed" "_law_failed" s_law_failed ["call"] := (fun _ _ _ _ _ _ us hl => match us, hl with | [_], _ => rfl)
abbrev s_law_refused_right : Stmt := top 40
theorem sc_law_refused_right : FnScope ["one", "part", "odd"] ["one", "part"] (defScope s_law_refused_right) := ⟨rfl, rfl, rfl, by decide +kernel, rfl, by decide +kernel, by decide +kernel⟩
def qlam : Str := (envOfC "_law_refused_right" (defScope s_law_refused_right) 0 0 .none).qual ++ "<lambda>"
def spRfr (C P : Addr) : Sp := fun vs H Q _ => ∃ x z c S, vs = [.ref x, .str z] ∧ CAt S C (noT H) x c ∧ CtOk c ∧ z ∈ c.us.map (·.z) ∧ Wd z ∧ LamX.Tabs [(P, qlam)] H ∧ ∀ H', LamX.ExtN H H' → LamX.Tabs [(P, qlam)] H' → Q (.bl true) H'
theorem rep_at {α : Type} {n : Nat} {x y : α} {i : Nat} (h : (List.replicate n x)[i]? = some y) : y = x := by
  rw [List.getElem?_replicate] at h
  split at h
  · exact (Option.some.inj h).symm
  · cases h
def rowK3 (x : Str) : List V := [.str "keys", .str x, .bl true]
def rowK3D (x : Str) : PyData := .list [.str "keys", .str x, .bool true]
theorem shp_k3 {x : Str} (ok : okW x) : SeqAt.shaped (rowK3D x) = true := by
  unfold okW at ok
  have ok2 : PyData.strOk "keys" = true := by decide +kernel
  have e1 : (rowK3D x).canLay0 = true := by simp [rowK3D, PyData.canLay0, PyData.canLayAll0, ok, ok2]
  have e2 : (rowK3D x).depth ≤ 64 := by first | (simp [rowK3D, PyData.depth, PyData.depthAll]; done) | (show PyData.depthAll _ + 1 ≤ 64; simp [PyData.depthAll, PyData.depth]; done) | decide
  exact Bool.and_eq_true_iff.mpr ⟨e1, decide_eq_true e2⟩
theorem ask_k3 {K : PySem.W.Frag} {H : Hp} {a b : Addr} {x : Str} {Q : VK} (ok : okW x) (h1 : H a = some (.lst (rowK3 x))) (h2 : H b = some (.lst (rowK3 x))) (q : Q (.bl false) H) : rNeD K (.ref a) (.ref b) H Q := by
  have dp : ∀ {a : Addr}, H a = some (.lst (rowK3 x)) → Dp K H (.ref a) (rowK3D x) := fun h => .lst (SqL.of h) (.cons (.str _) (.cons (.str x) (.cons (.bl _) .nil)))
  have e : PyData.eqv (rowK3D x) (rowK3D x) = true := by simp [PyData.eqv, rowK3D, PyData.eqvAll]
  exact ⟨_, _, dp h1, dp h2, shp_k3 ok, shp_k3 ok, by rw [e]; exact q⟩
/-- for x in [..]: the values by what holds of them -/
theorem for_gvl {K : PySem.W.Frag} {H0 : Hp} {σ : L2.St} {t : TA} {Ps : List (Hp → V → Prop)} {g : TG} {tb : TS} {D : Ends} (gv : GvA H0 σ t Ps) (few : Ps.length ≤ 1000)
    (k : ∀ l vs H1, Same H0 H1 → H1 l = some (.lst vs) → Paired (fun v P => P H1 v) vs Ps → ∃ Pv : Nat → L2.St → Hp → Prop, Pv 0 σ H1 ∧ (∀ i σ H, Pv i σ H → LamX.ExtN H1 H) ∧
      (∀ i x σ H, vs[i]? = some x → Pv i σ H → g x σ H fun σ2 H2 => tb { D with nx := Pv (i + 1), ct := Pv (i + 1), bk := D.nx } σ2 H2) ∧ ∀ σ H, Pv vs.length σ H → D.nx σ H) : tFor (iList K (tLst t)) g tb D σ H0 := by
  unfold tFor iList
  exact gvl_go gv few fun l vs H1 _ s1 el pv => ⟨l, rfl, ⟨_, SqL.of el⟩, by
    obtain ⟨Pv, h0, hx, hs, hd⟩ := k l vs H1 s1 el pv
    exact for_list (K := K) (a := l) (xs := vs) Pv h0 (fun i σ H _ h => SqL.of (hx i σ H h _ _ el (fun _ z => nomatch z))) hs hd⟩
theorem ask_two {K : PySem.W.Frag} {H : Hp} {l1 l2 : Addr} {a b : Str} {Q : VK} (n2 : upd H l1 (.lst [.str a, .str b]) l2 = none) (oa : okW a) (ob : okW b) (q : Q (.bl false) (upd (upd H l1 (.lst [.str a, .str b])) l2 (.lst [.str a, .str b]))) :
    rNeD K (.ref l1) (.ref l2) (upd (upd H l1 (.lst [.str a, .str b])) l2 (.lst [.str a, .str b])) Q := by
  have ok : ∀ z ∈ [a, b], okW z := fun z hz => by
    simp only [List.mem_cons, List.not_mem_nil, or_false] at hz
    rcases hz with rfl | rfl
    · exact oa
    · exact ob
  refine ask_neS (xs := [a, b]) (ys := [a, b]) (SqL.of (same_new n2 _ _ upd_same)) (SqL.of upd_same) ok ok ?_
  rw [decide_eq_true rfl]; exact q
section
variable {P : Program} {w : World} {K : PySem.W.Frag} {mg : Str → Option Value} {base : Heap} {C CI CU CK CG c0 P0 : Addr} {st1 st2 st3 : Stmt}
theorem ok_rfr (D : DefC K mg "_law_refused_right" s_law_refused_right c0) (DF : DefK K mg "_law_failed" s_law_failed) (T : Txt K mg) (J : CTx K mg C) (U : ExnQ K mg "UnknownName" CU "UnknownName.__init__" st1 "name") (I : ExnQ K mg "InvalidContents" CI "InvalidContents.__init__" st2 "part") (XV : ExnQ K mg "InvalidKeys" CK "InvalidKeys.__init__" st3 "value") (W9 : TstF K mg CU CI CK CG) (TB : LamX.TabB base mg c0 P0)
    (M_Ca : MetW P w K mg base (L2.CX P w) 9 C "changed" 2 ["accepted"] (fun vs zs => vs ++ zs ++ [.non]) (spChg K C CI CU)) (M_Cu : MetW P w K mg base (L2.CX P w) 9 C "changed" 2 ["used"] (fun vs zs => vs ++ [.non] ++ zs) (spChg K C CI CU))
    (M_Rvn : MetW P w K mg base (L2.CX P w) 9 C "revouched" 1 ["vouchers", "needed"] (fun vs zs => vs ++ zs ++ [.non]) (spRvd K C CI)) (M_Rns : MetW P w K mg base (L2.CX P w) 9 C "revouched" 1 ["needed", "signers"] (fun vs zs => vs ++ [.non] ++ zs) (spRvd K C CI)) (M_Rs : MetW P w K mg base (L2.CX P w) 9 C "revouched" 1 ["signers"] (fun vs zs => vs ++ [.non, .non] ++ zs) (spRvd K C CI)) (M_wo : Met P w K mg base (L2.CX P w) 9 C "without" (spWo K C CK)) : CalG P w K mg base CX0 12 "_law_refused_right" (spRfr C P0) := by
  refine D.calG sc_law_refused_right (fun _ _ _ _ _ _ us hl => match us, hl with | [_, _], _ => rfl) (fun vs H Q E h => ?_) fun f A outer s H vs Q E g hr h => ?_
  · obtain ⟨x, z, c, S, rfl, _⟩ := h; rfl
  · obtain ⟨x, z, c, S, rfl, ca0, ok, hz, wz, t0, kQ⟩ := h
    obtain ⟨r, hr2, rfl⟩ := List.mem_map.mp hz
    have hu : (A.deeper (envOfC "_law_refused_right" (defScope s_law_refused_right) s.heap.objs.size f (.ref c0))).units + 64 < cLine := hr.units
    refine ⟨_, (C8.pss_cut (ps_for PassesOwn.never rfl (pi_list (pe_lst (pa_cons pe_non (pa_cons pe_int (pa_cons (pe_tup pa_nil) (pa_cons (pe_lst (pa_cons (pv 1) pa_nil)) (pa_cons pe_str pa_nil))))))) (pg_name (i := 2) sc_law_refused_right.nd rfl (Or.inr rfl)) (pss_one (ps_if (pt_cmpR (op_neD hu) (pe_lam DF sc_law_failed bd_failed (gives_failed T U I XV W9 (hr.mono (by decide)) g _) TB rfl hr (fun _ _ _ _ _ _ _ hr => pe_mKS M_Ca J.cl (takes_of rfl rfl rfl rfl) hr (by decide) (pv 0) (pa_cons (pv 2) pa_nil) (pk_cons pe_int pk_nil)) rfl rfl (.inl rfl) (show LamX.LamS (defScope s_law_refused_right) _ from LamX.lamS_by (by decide +kernel)) rfl (fun _ _ _ _ _ => rfl)) (pe_lst (pa_cons pe_str (pa_cons (pe_callB (call_shw g hu) (by rfl) T.b_repr (by decide +kernel) (pa_cons (pv 2) pa_nil)) pa_nil))) (nomark _)) (pss_one (ps_ret pe_bl)) pss_nil)))
      (C8.pss_cut (ps_for PassesOwn.never rfl (pi_list (pe_lst (pa_cons pe_int (pa_cons pe_str (pa_cons (pe_lst (pa_cons pe_str pa_nil)) (pa_cons (pe_lst (pa_cons pe_str (pa_cons pe_str pa_nil))) (pa_cons (pe_callTy (call_listS rfl) (by rfl) T.b_list (by decide +kernel) (pa_cons pe_str pa_nil)) pa_nil))))))) (pg_name (i := 2) sc_law_refused_right.nd rfl (Or.inr rfl)) (pss_one (ps_if (pt_cmpR (op_neD hu) (pe_lam DF sc_law_failed bd_failed (gives_failed T U I XV W9 (hr.mono (by decide)) g _) TB rfl hr (fun _ _ _ _ _ _ _ hr => pe_mKS M_Ca J.cl (takes_of rfl rfl rfl rfl) hr (by decide) (pv 0) (pa_cons (pv 1) pa_nil) (pk_cons (pv 2) pk_nil)) rfl rfl (.inl rfl) (show LamX.LamS (defScope s_law_refused_right) _ from LamX.lamS_by (by decide +kernel)) rfl (fun _ _ _ _ _ => rfl)) (pe_lst (pa_cons pe_str (pa_cons pe_str pa_nil))) (nomark _)) (pss_one (ps_ret pe_bl)) pss_nil)))
      (C8.pss_cut (ps_if (pt_cmpR (op_neD hu) (pe_lam DF sc_law_failed bd_failed (gives_failed T U I XV W9 (hr.mono (by decide)) g _) TB rfl hr (fun _ _ _ _ _ _ _ hr => pe_mKS M_Cu J.cl (takes_of rfl rfl rfl rfl) hr (by decide) (pv 0) (pa_cons (pv 1) pa_nil) (pk_cons pe_str pk_nil)) rfl rfl (.inl rfl) (show LamX.LamS (defScope s_law_refused_right) _ from LamX.lamS_by (by decide +kernel)) rfl (fun _ _ _ _ _ => rfl)) (pe_lst (pa_cons pe_str (pa_cons pe_str pa_nil))) (nomark _)) (pss_one (ps_ret pe_bl)) pss_nil)
      (C8.pss_cut (ps_if (pt_cmpR (op_neD hu) (pe_lam DF sc_law_failed bd_failed (gives_failed T U I XV W9 (hr.mono (by decide)) g _) TB rfl hr (fun _ _ _ _ _ _ _ hr => pe_mK0S M_Rvn J.cl (takes_of rfl rfl rfl rfl) hr (by decide) (pv 0) (pk_cons pe_int (pk_cons pe_int pk_nil))) rfl rfl (.inl rfl) (show LamX.LamS (defScope s_law_refused_right) _ from LamX.lamS_by (by decide +kernel)) rfl (fun _ _ _ _ _ => rfl)) (pe_lst (pa_cons pe_str (pa_cons pe_str pa_nil))) (nomark _)) (pss_one (ps_ret pe_bl)) pss_nil)
      (C8.pss_cut (ps_if (pt_cmpR (op_neD hu) (pe_lam DF sc_law_failed bd_failed (gives_failed T U I XV W9 (hr.mono (by decide)) g _) TB rfl hr (fun _ _ _ _ _ _ _ hr => pe_mK0S M_Rns J.cl (takes_of rfl rfl rfl rfl) hr (by decide) (pv 0) (pk_cons pe_int (pk_cons pe_int pk_nil))) rfl rfl (.inl rfl) (show LamX.LamS (defScope s_law_refused_right) _ from LamX.lamS_by (by decide +kernel)) rfl (fun _ _ _ _ _ => rfl)) (pe_lst (pa_cons pe_str (pa_cons pe_str pa_nil))) (nomark _)) (pss_one (ps_ret pe_bl)) pss_nil)
      (C8.pss_cut (ps_if (pt_cmpR (op_neD hu) (pe_lam DF sc_law_failed bd_failed (gives_failed T U I XV W9 (hr.mono (by decide)) g _) TB rfl hr (fun _ _ _ _ _ _ _ hr => pe_mK0S M_Rs J.cl (takes_of rfl rfl rfl rfl) hr (by decide) (pv 0) (pk_cons (pe_lst (pa_cons pe_str (pa_cons pe_str pa_nil))) pk_nil)) rfl rfl (.inl rfl) (show LamX.LamS (defScope s_law_refused_right) _ from LamX.lamS_by (by decide +kernel)) rfl (fun _ _ _ _ _ => rfl)) (pe_lst (pa_cons pe_str (pa_cons pe_str pa_nil))) (nomark _)) (pss_one (ps_ret pe_bl)) pss_nil)
      (C8.pss_cut (ps_for PassesOwn.never rfl (pi_list (pe_lst (pa_cons pe_non (pa_cons pe_str (pa_cons (pe_tup (pa_cons pe_str pa_nil)) (pa_cons (pe_lst (pa_cons pe_str (pa_cons pe_int pa_nil))) (pa_cons (pe_lst (pa_cons pe_non pa_nil)) (pa_cons (pe_lst (pa_cons (pe_lst (pa_cons pe_str pa_nil)) pa_nil)) (pa_cons pe_dnewK pa_nil))))))))) (pg_name (i := 2) sc_law_refused_right.nd rfl (Or.inr rfl)) (pss_one (ps_if (pt_cmpR (op_neD hu) (pe_lam DF sc_law_failed bd_failed (gives_failed T U I XV W9 (hr.mono (by decide)) g _) TB rfl hr (fun _ _ _ _ _ _ _ hr => pe_mS M_wo J.cl (takes_of rfl rfl rfl rfl) hr (by decide) (pv 0) (pa_cons (pv 2) pa_nil)) rfl rfl (.inl rfl) (show LamX.LamS (defScope s_law_refused_right) _ from LamX.lamS_by (by decide +kernel)) rfl (fun _ _ _ _ _ => rfl)) (pe_lst (pa_cons pe_str (pa_cons (pe_callB (call_shw g hu) (by rfl) T.b_repr (by decide +kernel) (pa_cons (pv 2) pa_nil)) (pa_cons pe_bl pa_nil)))) (nomark _)) (pss_one (ps_ret pe_bl)) pss_nil)))
      (pss_one (ps_ret pe_bl))))))))), ?_⟩
    have big : (1000 : Nat) ≤ sizeLine := by decide
    have no1 : ∀ {a b s : Addr} {n : Int}, (cflds a b n s).lookup ("changed" : Str) = none := get_no _ _ _ _ (by decide +kernel) (by decide +kernel) (by decide +kernel) (by decide +kernel)
    have no2 : ∀ {a b s : Addr} {n : Int}, (cflds a b n s).lookup ("revouched" : Str) = none := get_no _ _ _ _ (by decide +kernel) (by decide +kernel) (by decide +kernel) (by decide +kernel)
    have no3 : ∀ {a b s : Addr} {n : Int}, (cflds a b n s).lookup ("without" : Str) = none := get_no _ _ _ _ (by decide +kernel) (by decide +kernel) (by decide +kernel) (by decide +kernel)
    obtain ⟨⟨dx, d0, v0, s0, ex, _⟩, _⟩ := id ca0
    have at_ : ∀ {H1 H2 : Hp}, LamX.ExtN H H1 → LamX.ExtN H1 H2 → CAt S C H2 x c ∧ H2 x = some (.ins C dx (cflds d0 v0 c.ne s0)) := fun e1 e2 =>
      have s := ((noT_ext e1).trans (noT_ext e2)).trans noT_same
      ⟨ca0.same s, s _ _ ex⟩
    refine ⟨fun σ' H' => (∃ v, σ' = [some (.ref x), some (.str r.z), v]) ∧ LamX.ExtN H H' ∧ LamX.Tabs [(P0, qlam)] H', ?_, ?_⟩
    · refine for_gvl (H0 := H) (σ := [some (.ref x), some (.str r.z), none]) (vals1_ (K := K) (c := c) ok wz rfl) (by simp) fun l vs H1 s1 el pv => ⟨fun i sg' H' => (∃ v, sg' = [some (.ref x), some (.str r.z), v]) ∧ LamX.ExtN H1 H' ∧ LamX.Tabs [(P0, qlam)] H', ⟨⟨_, rfl⟩, .refl _, Tabs.same t0 s1⟩, (fun i sg' H' ⟨_, e, _⟩ => e), ?_, ?_⟩
      · rintro i y sg' H' hy ⟨⟨v2, rfl⟩, e', t'⟩
        have p1 : P1 K c (noT H1) y := par_rep pv y (List.mem_of_getElem? hy)
        obtain ⟨no, sf⟩ := mono_1 _ _ _ (noT_ext e') p1
        have hE := (LamX.ExtN.of s1).trans e'
        refine ⟨t', fun H2 e2 t2 => ?_⟩
        obtain ⟨ca, ex2⟩ := at_ hE e2
        have no2' := (no.keep (noT_ext e2)).keep noT_same
        obtain ⟨tx, oktx, sh⟩ := (sf.keep (noT_ext e2)).keep noT_same
        refine ⟨_, rfl, x, dx, _, rfl, ex2, no1, _, rfl, rfl, rfl, x, y, .int 5, .non, c, S, rfl, ca, ok, .inl ⟨no2', fun d' H3 nd s3 ed => .inl ⟨d', y, tx, rfl, rfl, ed, sh _ s3, fun l1 nl1 => ?_⟩⟩⟩
        have s4 := s3.trans (same_new (o := .lst [.str "name", .str tx]) nl1)
        refine ⟨_, rfl, y, tx, rfl, sh _ s4, by show 2 ≤ sizeLine; decide, fun l2 nl2 => ask_two nl2 (okd (by decide +kernel)) oktx ⟨_, rfl, iteFe rfl ⟨⟨_, rfl⟩, e'.trans (e2.trans (LamX.ExtN.of (same_new' s4 nl2))), Tabs.same t2 (same_new' s4 nl2)⟩⟩⟩
      · rintro sg' H' ⟨⟨v2, rfl⟩, e', t'⟩
        exact ⟨⟨_, rfl⟩, (LamX.ExtN.of s1).trans e', t'⟩
    rintro _ HA ⟨⟨vA, rfl⟩, eA, tA⟩
    refine ⟨fun σ' H' => (∃ v, σ' = [some (.ref x), some (.str r.z), v]) ∧ LamX.ExtN H H' ∧ LamX.Tabs [(P0, qlam)] H', ?_, ?_⟩
    · refine for_gvl (H0 := HA) (σ := [some (.ref x), some (.str r.z), vA]) (vals2_ (K := K)) (by simp) fun l vs H1 s1 el pv => ⟨fun i sg' H' => (∃ v, sg' = [some (.ref x), some (.str r.z), v]) ∧ LamX.ExtN H1 H' ∧ LamX.Tabs [(P0, qlam)] H', ⟨⟨_, rfl⟩, .refl _, Tabs.same tA s1⟩, (fun i sg' H' ⟨_, e, _⟩ => e), ?_, ?_⟩
      · rintro i y sg' H' hy ⟨⟨v2, rfl⟩, e', t'⟩
        have p1 : P2 K (noT H1) y := par_rep pv y (List.mem_of_getElem? hy)
        obtain ⟨ny, ki⟩ := mono_2 _ _ _ (noT_ext e') p1
        have hE := eA.trans ((LamX.ExtN.of s1).trans e')
        refine ⟨t', fun H2 e2 t2 => ?_⟩
        obtain ⟨ca, ex2⟩ := at_ hE e2
        refine ⟨_, rfl, x, dx, _, rfl, ex2, no1, _, rfl, _, rfl, rfl, rfl, x, .str r.z, y, .non, c, S, rfl, ca, ok, .inr ⟨r, hr2, rfl, .inr ⟨false, true, .inr ⟨ny, (ki.keep (noT_ext e2)).keep noT_same⟩, .inl ⟨rfl, rfl⟩, rfl, fun d' H3 nd s3 ed => .inr (.inl ⟨d', "roles", rfl, rfl, ed, fun l1 nl1 => ?_⟩)⟩⟩⟩
        have s4 := s3.trans (same_new (o := .lst [.str "part", .str "roles"]) nl1)
        exact ⟨by show 2 ≤ sizeLine; decide, fun l2 nl2 => ask_two nl2 (okd (by decide +kernel)) (okd (by decide +kernel)) ⟨_, rfl, iteFe rfl ⟨⟨_, rfl⟩, e'.trans (e2.trans (LamX.ExtN.of (same_new' s4 nl2))), Tabs.same t2 (same_new' s4 nl2)⟩⟩⟩
      · rintro sg' H' ⟨⟨v2, rfl⟩, e', t'⟩
        exact ⟨⟨_, rfl⟩, eA.trans ((LamX.ExtN.of s1).trans e'), t'⟩
    clear eA tA
    clear HA vA
    rintro _ HA ⟨⟨vA, rfl⟩, eA, tA⟩
    have kno : ∀ {H2 : Hp} {i m : Int}, KeysIs K H2 (.int i) m false := fun {H2 i m} => keys_no (fun _ _ => .base (.int _)) (kit_ty (by decide +kernel)) (kit_ty (by decide +kernel))
    refine ⟨fun σ' H' => (∃ v, σ' = [some (.ref x), some (.str r.z), v]) ∧ LamX.ExtN H H' ∧ LamX.Tabs [(P0, qlam)] H', ?_, ?_⟩
    · refine ⟨tA, fun H2 e2 t2 => ?_⟩
      obtain ⟨ca, ex2⟩ := at_ eA e2
      refine ⟨_, rfl, x, dx, _, rfl, ex2, no1, _, rfl, rfl, rfl, x, .str r.z, .non, .str "B", c, S, rfl, ca, ok, .inr ⟨r, hr2, rfl, .inr ⟨true, false, .inl ⟨rfl, rfl⟩, .inr ⟨(fun z => nomatch z), .inl ⟨"B", rfl, by decide +kernel, by decide +kernel⟩⟩, rfl, fun d' H3 nd s3 ed => .inr (.inl ⟨d', "roles", rfl, rfl, ed, fun l1 nl1 => ?_⟩)⟩⟩⟩
      have s4 := s3.trans (same_new (o := .lst [.str "part", .str "roles"]) nl1)
      exact ⟨by show 2 ≤ sizeLine; decide, fun l2 nl2 => ask_two nl2 (okd (by decide +kernel)) (okd (by decide +kernel)) ⟨_, rfl, iteFe rfl ⟨⟨_, rfl⟩, eA.trans (e2.trans (LamX.ExtN.of (same_new' s4 nl2))), Tabs.same t2 (same_new' s4 nl2)⟩⟩⟩
    clear eA tA
    clear HA vA
    rintro _ HA ⟨⟨vA, rfl⟩, eA, tA⟩
    refine ⟨fun σ' H' => (∃ v, σ' = [some (.ref x), some (.str r.z), v]) ∧ LamX.ExtN H H' ∧ LamX.Tabs [(P0, qlam)] H', ?_, ?_⟩
    · refine ⟨tA, fun H2 e2 t2 => ?_⟩
      obtain ⟨ca, ex2⟩ := at_ eA e2
      refine ⟨_, rfl, x, dx, _, rfl, ex2, no2, rfl, x, .int 5, .int 9, .non, c, S, rfl, ca, ok, .inr ⟨false, false, true, .str "vouchers", .inr ⟨(fun z => nomatch z), kno⟩, .inr ⟨(fun z => nomatch z), .inl ⟨9, rfl, by decide⟩⟩, .inl ⟨rfl, rfl⟩, rfl, (fun z => nomatch z), fun d' H3 nd s3 ed => .inr (.inl ⟨d', "vouchers", rfl, rfl, ed, fun l1 nl1 => ?_⟩)⟩⟩
      have s4 := s3.trans (same_new (o := .lst [.str "part", .str "vouchers"]) nl1)
      exact ⟨by show 2 ≤ sizeLine; decide, fun l2 nl2 => ask_two nl2 (okd (by decide +kernel)) (okd (by decide +kernel)) ⟨_, rfl, iteFe rfl ⟨⟨_, rfl⟩, eA.trans (e2.trans (LamX.ExtN.of (same_new' s4 nl2))), Tabs.same t2 (same_new' s4 nl2)⟩⟩⟩
    clear eA tA
    clear HA vA
    rintro _ HA ⟨⟨vA, rfl⟩, eA, tA⟩
    refine ⟨fun σ' H' => (∃ v, σ' = [some (.ref x), some (.str r.z), v]) ∧ LamX.ExtN H H' ∧ LamX.Tabs [(P0, qlam)] H', ?_, ?_⟩
    · refine ⟨tA, fun H2 e2 t2 => ?_⟩
      obtain ⟨ca, ex2⟩ := at_ eA e2
      refine ⟨_, rfl, x, dx, _, rfl, ex2, no2, rfl, x, .non, .int 5, .int 5, c, S, rfl, ca, ok, .inr ⟨true, false, false, .str "needed", .inl ⟨rfl, rfl⟩, .inr ⟨(fun z => nomatch z), .inl ⟨5, rfl, by decide⟩⟩, .inr ⟨(fun z => nomatch z), kno⟩, rfl, (fun z => nomatch z), fun d' H3 nd s3 ed => .inr (.inl ⟨d', "needed", rfl, rfl, ed, fun l1 nl1 => ?_⟩)⟩⟩
      have s4 := s3.trans (same_new (o := .lst [.str "part", .str "needed"]) nl1)
      exact ⟨by show 2 ≤ sizeLine; decide, fun l2 nl2 => ask_two nl2 (okd (by decide +kernel)) (okd (by decide +kernel)) ⟨_, rfl, iteFe rfl ⟨⟨_, rfl⟩, eA.trans (e2.trans (LamX.ExtN.of (same_new' s4 nl2))), Tabs.same t2 (same_new' s4 nl2)⟩⟩⟩
    clear eA tA
    clear HA vA
    rintro _ HA ⟨⟨vA, rfl⟩, eA, tA⟩
    refine ⟨fun σ' H' => (∃ v, σ' = [some (.ref x), some (.str r.z), v]) ∧ LamX.ExtN H H' ∧ LamX.Tabs [(P0, qlam)] H', ?_, ?_⟩
    · refine ⟨tA, fun H2 e2 t2 => ?_⟩
      obtain ⟨ca, ex2⟩ := at_ eA e2
      refine ⟨_, rfl, x, dx, _, rfl, ex2, no2, by show 2 ≤ sizeLine; decide, fun la nla => ?_⟩
      have sa := same_new (o := .lst [.str "a", .str "a"]) nla
      have ea : upd H2 la (.lst [.str "a", .str "a"]) la = some (.lst [.str "a", .str "a"]) := upd_same
      generalize upd H2 la (.lst [.str "a", .str "a"]) = H2' at *
      have kf := keys_lst (K := K) (m := 4) ea (by simp) fun x hx => (by
        have hx : x = .str "a" := by simpa using hx
        rw [hx]
        exact it_str (by decide +kernel))
      rw [keysB_twice] at kf
      refine ⟨rfl, x, .non, .non, .ref la, c, S, rfl, ca.same sa, ok, .inr ⟨true, true, false, .str "signers", .inl ⟨rfl, rfl⟩, .inl ⟨rfl, rfl⟩, .inr ⟨(fun z => nomatch z), kf⟩, rfl, (fun z => nomatch z), fun d' H3 nd s3' ed => .inr (.inl ⟨d', "signers", rfl, rfl, ed, fun l1 nl1 => ?_⟩)⟩⟩
      have s3 := sa.trans s3'
      have s4 := s3.trans (same_new (o := .lst [.str "part", .str "signers"]) nl1)
      exact ⟨by show 2 ≤ sizeLine; decide, fun l2 nl2 => ask_two nl2 (okd (by decide +kernel)) (okd (by decide +kernel)) ⟨_, rfl, iteFe rfl ⟨⟨_, rfl⟩, eA.trans (e2.trans (LamX.ExtN.of (same_new' s4 nl2))), Tabs.same t2 (same_new' s4 nl2)⟩⟩⟩
    clear eA tA
    clear HA vA
    rintro _ HA ⟨⟨vA, rfl⟩, eA, tA⟩
    refine ⟨fun σ' H' => (∃ v, σ' = [some (.ref x), some (.str r.z), v]) ∧ LamX.ExtN H H' ∧ LamX.Tabs [(P0, qlam)] H', ?_, ?_⟩
    · refine for_gvl (H0 := HA) (σ := [some (.ref x), some (.str r.z), vA]) (vals3_ (K := K)) (by simp) fun l vs H1 s1 el pv => ⟨fun i sg' H' => (∃ v, sg' = [some (.ref x), some (.str r.z), v]) ∧ LamX.ExtN H1 H' ∧ LamX.Tabs [(P0, qlam)] H', ⟨⟨_, rfl⟩, .refl _, Tabs.same tA s1⟩, (fun i sg' H' ⟨_, e, _⟩ => e), ?_, ?_⟩
      · rintro i y sg' H' hy ⟨⟨v2, rfl⟩, e', t'⟩
        have p1 : P3 K (noT H1) y := par_rep pv y (List.mem_of_getElem? hy)
        obtain ⟨no, sf⟩ := mono_3 _ _ _ (noT_ext e') p1
        have hE := eA.trans ((LamX.ExtN.of s1).trans e')
        refine ⟨t', fun H2 e2 t2 => ?_⟩
        obtain ⟨ca, ex2⟩ := at_ hE e2
        have no2' := (no.keep (noT_ext e2)).keep noT_same
        obtain ⟨tx, oktx, sh⟩ := (sf.keep (noT_ext e2)).keep noT_same
        refine ⟨_, rfl, x, dx, _, rfl, ex2, no3, _, rfl, x, y, c, S, rfl, ca, ok, .inl ⟨no2', fun d' H3 nd s3 ed => .inr (.inr ⟨d', y, tx, rfl, rfl, ed, sh _ s3, fun l1 nl1 => ?_⟩)⟩⟩
        have s4 := s3.trans (same_new (o := .lst (rowK3 tx)) nl1)
        refine ⟨_, rfl, y, tx, rfl, sh _ s4, by show 3 ≤ sizeLine; decide, fun l2 nl2 => ask_k3 oktx (same_new nl2 _ _ upd_same) upd_same ⟨_, rfl, iteFe rfl ⟨⟨_, rfl⟩, e'.trans (e2.trans (LamX.ExtN.of (same_new' s4 nl2))), Tabs.same t2 (same_new' s4 nl2)⟩⟩⟩
      · rintro sg' H' ⟨⟨v2, rfl⟩, e', t'⟩
        exact ⟨⟨_, rfl⟩, eA.trans ((LamX.ExtN.of s1).trans e'), t'⟩
    clear eA tA
    clear HA vA
    rintro _ HA ⟨⟨vA, rfl⟩, eA, tA⟩
    exact kQ _ eA tA
end

end K08

namespace K08
open PySem PySem.Spec PyProof.Rows L2 Jg
local macro_rules | `(tactic| walk_at "rd1") => `(tactic| (first
  | refine ⟨_, rfl, ?_⟩
  | refine ⟨_, _, rfl, rfl, ?_⟩
  | refine ⟨_, _, rfl, ?_⟩
  | refine ⟨rfl, ?_⟩
  | (refine ⟨show (0 : Int) < _ by omega, ?_⟩)
  | (refine ⟨Or.inl ⟨by omega, by omega⟩, ?_⟩)
  | (refine ⟨Or.inr ⟨by omega, by omega⟩, ?_⟩)
  | (refine ⟨(⟨by decide, by decide, by decide⟩ : CPow _ _), ?_⟩)
  | refine Or.inl ⟨_, rfl, ?_⟩
  | refine Or.inr ⟨_, rfl, ?_⟩
  | fail "rd"))
local macro_rules | `(tactic| walk_at "rd") => `(tactic| repeat' walk_at "rd1")


/-! ### the law -/
def spLaw (K : PySem.W.Frag) (P0 : Addr) : Sp := fun vs H Q _ => ∃ (a : Addr) (ns : List Int), vs = [.ref a] ∧ SqL K H a (ns.map V.int) ∧ ns.length ≤ 63 ∧ LamX.Tabs [(P0, qlam)] H ∧ ∀ H', Q (.bl true) H'
structure TstL (K : PySem.W.Frag) (mg : Str → Option Value) : Prop where
  b_zip : mg "zip" = none
theorem Tabs.keepB {T : List (Addr × Str)} {H H' : Hp} {p : Addr} (t : LamX.Tabs T H) (st : StA H p) (s : SameB p H H') : LamX.Tabs T H' := fun x hx => by
  obtain ⟨ps, h1, h2, h3⟩ := t x hx
  refine ⟨ps, s _ _ h1 (st.no h1 fun _ _ z => nomatch z), h2, fun pos cv hc => ?_⟩
  obtain ⟨c, e1, e2⟩ := h3 pos cv hc
  exact ⟨c, e1, s _ _ e2 (st.no e2 fun _ _ z => by unfold LamX.CodeO at z; cases z)⟩
theorem use_tolds {K : PySem.W.Frag} {H : Hp} {p l1 l2 l3 : Addr} {n : Nat} {parts keys hands : List Str} {Q : VK} {E : XK} (g : Gn p l1 l2 l3 parts keys hands H) (w : Wn parts keys hands) (h1 : 1 ≤ n) (h9 : n ≤ 100)
    (k : ∀ f qs ds H', H f = none → f ≠ p → qs.length = n → H' f = some (.lst (qs.map V.ref)) → TdsAt parts keys hands H' qs ds → StA H' p → SameB p H H' → Q (.ref f) H') : spTolds K [.ref p, .int n, .ref l1, .ref l2, .ref l3] H Q E := by
  unfold spTolds
  exact ⟨p, l1, l2, l3, n, parts, keys, hands, rfl, g, w, h1, h9, k⟩
structure LwS (P0 p l1 l2 l3 : Addr) (parts keys hands : List Str) (H1 H : Hp) : Prop where
  g : Gn p l1 l2 l3 parts keys hands H
  sm : Same H1 H
  tb : LamX.Tabs [(P0, qlam)] H
  np : H1 p = none
theorem LwS.keep {P0 p l1 l2 l3 : Addr} {parts keys hands : List Str} {H1 H H' : Hp} (h : LwS P0 p l1 l2 l3 parts keys hands H1 H) (s : SameB p H H') (st : StA H' p) : LwS P0 p l1 l2 l3 parts keys hands H1 H' :=
  ⟨h.g.keep s st, SameB.out h.sm s h.np, Tabs.keepB h.tb h.g.st s, h.np⟩
theorem LwS.same {P0 p l1 l2 l3 : Addr} {parts keys hands : List Str} {H1 H H' : Hp} (h : LwS P0 p l1 l2 l3 parts keys hands H1 H) (s : Same H H') : LwS P0 p l1 l2 l3 parts keys hands H1 H' := h.keep (SameB.of s) (h.g.st.keep s)
inductive OneL (p C : Addr) (H : Hp) : List Addr → List Td → Prop
  | nil : OneL p C H [] []
  | cons {x : Addr} {d : Td} {xs : List Addr} {ds : List Td} : One p C H x d → OneL p C H xs ds → OneL p C H (x :: xs) (d :: ds)
theorem OneL.keep {p C : Addr} {H H' : Hp} (s : SameB p H H') : ∀ {xs : List Addr} {ds : List Td}, OneL p C H xs ds → OneL p C H' xs ds
  | _, _, .nil => .nil
  | _, _, .cons a r => .cons (a.keep s) (r.keep s)
theorem OneL.app {p C : Addr} {H : Hp} : ∀ {xs ys : List Addr} {ks ls : List Td}, OneL p C H xs ks → OneL p C H ys ls → OneL p C H (xs ++ ys) (ks ++ ls)
  | _, _, _, _, .nil, h => h
  | _, _, _, _, .cons a r, h => .cons a (r.app h)
theorem OneL.at_ {p C : Addr} {H : Hp} : ∀ {xs : List Addr} {ds : List Td} {i : Nat} {x : Addr}, OneL p C H xs ds → xs[i]? = some x → ∃ d, ds[i]? = some d ∧ One p C H x d
  | _, _, i, _, .nil, h => by simp at h
  | _, _, 0, _, .cons a _, h => by cases Option.some.inj h; exact ⟨_, rfl, a⟩
  | _, _, i + 1, _, .cons _ r, h => let ⟨k, a, b⟩ := r.at_ (i := i) (by simpa using h); ⟨k, by simpa using a, b⟩
theorem OneL.len {p C : Addr} {H : Hp} : ∀ {xs : List Addr} {ds : List Td}, OneL p C H xs ds → xs.length = ds.length
  | _, _, .nil => rfl
  | _, _, .cons _ r => by rw [List.length_cons, List.length_cons, r.len]
def sgL (a : Addr) (i : Nat) (p l1 l2 l3 : Addr) (v3 v4 v5 v9 v10 v11 v12 : Option V) : L2.St := [some (.ref a), some (.int i), some (.ref p), v3, v4, v5, some (.ref l1), some (.ref l2), some (.ref l3), v9, v10, v11, v12]
theorem for_zip {K : PySem.W.Frag} {a b : Addr} {xs ys : List V} {g : TG} {tb : TS} {D : Ends} {σ : L2.St} {H : Hp} {i j : Nat} (hi : σ[i]? = some (some (.ref a))) (hj : σ[j]? = some (some (.ref b))) (ea : H a = some (.lst xs)) (eb : H b = some (.lst ys)) (hl : xs.length = ys.length)
    (Pv : Nat → L2.St → Hp → Prop) (h0 : Pv 0 σ H) (hq : ∀ i σ H', Pv i σ H' → Same H H')
    (hs : ∀ (i : Nat) (x y : V) (T : Addr) (σ : L2.St) (H : Hp), xs[i]? = some x → ys[i]? = some y → Pv i σ H → H T = none → g (.ref T) σ (upd H T (.tup [x, y])) fun σ2 H2 => tb { D with nx := Pv (i + 1), ct := Pv (i + 1), bk := D.nx } σ2 H2) (hd : ∀ σ H, Pv xs.length σ H → D.nx σ H) :
    tFor (RZ.iZipA K (tCons (tVar i) (tCons (tVar j) tNil))) g tb D σ H := by
  unfold tFor RZ.iZipA
  exact ⟨_, hi, _, hj, a, b, xs, ys, rfl, .inl ⟨SqL.of ea, SqL.of eb, RZ.for_zipL hl Pv h0 (fun i σ H' p => ⟨SqL.of (hq _ _ _ p _ _ ea), SqL.of (hq _ _ _ p _ _ eb)⟩) hs hd⟩⟩
theorem CAt.noT {S : Addr → Prop} {C : Addr} {H : Hp} {x : Addr} {c : Ct} (h : CAt S C H x c) : CAt S C (noT H) x c := by
  obtain ⟨⟨dx, d, v, s, e1, e2, e3, e4, r⟩, us⟩ := h
  exact ⟨⟨dx, d, v, s, noT_at e1 (fun _ z => nomatch z), noT_at e2 (fun _ z => nomatch z), noT_at e3 (fun _ z => nomatch z), noT_at e4 (fun _ z => nomatch z), r⟩, fun q hq => ⟨noT_at (us q hq).tp (fun _ z => nomatch z), noT_at (us q hq).ls (fun _ z => nomatch z), (us q hq).st, (us q hq).sa⟩⟩
section
variable {P : Program} {w : World} {K : PySem.W.Frag} {mg : Str → Option Value} {base : Heap} {C P0 : Addr}
abbrev s_law : Stmt := top 41
theorem sc_law : FnScope ["script", "k", "stream", "tolds", "some", "odd", "parts", "keys", "hands", "one", "told", "other", "later"] ["script"] (defScope s_law) := ⟨rfl, rfl, rfl, by decide +kernel, rfl, by decide +kernel, by decide +kernel⟩
theorem body_law (T : Txt K mg) (J : CTx K mg C) (W8 : TstL K mg) (G_law_stream : Cal P w K mg base CX0 1 "_law_stream" (spStream K)) (G_law_draw : Cal P w K mg base CX0 1 "_law_draw" spDr) (G_law_words : Cal P w K mg base CX0 3 "_law_words" spWords) (G_law_told : Cal P w K mg base CX0 3 "_law_told" (spToldI K)) (G_law_tolds : Cal P w K mg base CX0 4 "_law_tolds" (spTolds K))
    (G_law_contents : Cal P w K mg base CX0 9 "_law_contents" (spCon C)) (G_law_vouched : Cal P w K mg base CX0 1 "_law_vouched" (spVou K)) (G_law_key : CalG P w K mg base CX0 1 "_law_key" (spKey K)) (G_law_changed_right : CalG P w K mg base CX0 10 "_law_changed_right" spCri) (G_law_refused_right : CalG P w K mg base CX0 12 "_law_refused_right" (spRfr C P0))
    (M_takes : Met P w K mg base CX0 1 C "takes" (spTakes C)) (M_eq : Met P w K mg base CX0 1 C "__eq__" (spCEq K C))
    (ff : Addr) (cdv : Value) (A : Around) (outer : List Env) (s : Shared) (H : Hp) (vs : List V) (Q : VK) (E : XK) (g : (A.deeper (envOfC "law" (defScope s_law) s.heap.objs.size ff cdv)).guards = some []) (hr : Room 12 (A.deeper (envOfC "law" (defScope s_law) s.heap.objs.size ff cdv))) (h : spLaw K P0 vs H Q E) :
    ∃ t, PSs (cxOf CX0 P w K mg base ["script", "k", "stream", "tolds", "some", "odd", "parts", "keys", "hands", "one", "told", "other", "later"] "law" (defScope s_law) ff cdv A outer s H E).nox (defBody s_law) t ∧ t { nx := fun _ H' => Q .non H', rt := Q } (start ["script", "k", "stream", "tolds", "some", "odd", "parts", "keys", "hands", "one", "told", "other", "later"] vs) H := by
  obtain ⟨a, ns, rfl, hS, hl, t0, k⟩ := h
  have hu : (A.deeper (envOfC "law" (defScope s_law) s.heap.objs.size ff cdv)).units + 64 < cLine := hr.units
  refine ⟨_, (pss_cons (ps_for PassesOwn.never rfl (pi_range1 (by rfl) T.b_range (pa_cons (pe_callB (call_max2 rfl) (by rfl) T.b_max (by decide +kernel) (pa_cons pe_int (pa_cons (pe_callB (call_min2 rfl) (by rfl) T.b_min (by decide +kernel) (pa_cons pe_int (pa_cons (pe_callB call_len_seq (by rfl) T.b_len (by decide +kernel) (pa_cons (pv 0) pa_nil)) pa_nil))) pa_nil))) pa_nil)) (pg_name (i := 1) sc_law.nd rfl (Or.inl rfl)) (pss_cons (ps_set (i := 2) sc_law.nd rfl (Or.inr rfl) (pe_c G_law_stream hr (by decide) rfl (pa_cons (pv 0) (pa_cons (pv 1) pa_nil))))
      (C8.pss_cut (ps_par3 (i := 6) (j := 7) (l := 8) (by rfl) sc_law.nd rfl rfl rfl (by decide) (by decide) (by decide) rfl rfl rfl (pa_cons (pe_c G_law_words hr (by decide) rfl (pa_cons (pv 2) (pa_cons (pe_op op_add pe_int (pe_c G_law_draw hr (by decide) rfl (pa_cons (pv 2) (pa_cons pe_int pa_nil)))) pa_nil))) (pa_cons (pe_c G_law_words hr (by decide) rfl (pa_cons (pv 2) (pa_cons pe_int pa_nil))) (pa_cons (pe_c G_law_words hr (by decide) rfl (pa_cons (pv 2) (pa_cons pe_int pa_nil))) pa_nil))) (by rfl))
      (C8.pss_cut (ps_set (i := 3) sc_law.nd rfl (Or.inl rfl) (pe_op op_cat (pe_c G_law_tolds hr (by decide) rfl (pa_cons (pv 2) (pa_cons pe_int (pa_cons (pv 6) (pa_cons (pv 7) (pa_cons (pv 8) pa_nil)))))) (pe_lst (pa_cons (pe_c G_law_told hr (by decide) rfl (pa_cons (pv 2) (pa_cons (pv 6) (pa_cons (pv 7) (pa_cons (pv 8) pa_nil))))) pa_nil))))
      (C8.pss_cut (ps_set (i := 3) sc_law.nd rfl (Or.inl rfl) (pe_op op_cat (pv 3) (pe_lc (own := [("told", 10)]) (g := gName 10) (by rfl) sc_law.nd (pi_list (pe_slice sl_list (pv 3) po_none (po_some pe_int))) (blkOk_by (own := [("told", 10)]) (N := ["script", "k", "stream", "tolds", "some", "odd", "parts", "keys", "hands", "one", "told", "other", "later"]) (sc := defScope s_law) (by decide +kernel)) (fun _ _ _ _ _ => pg_name (i := 10) sc_law.nd rfl (Or.inl rfl)) (fun _ _ _ _ _ => pts_nil) (fun _ _ _ _ _ => (pe_tup (pa_cons (pe_ix (r := rIxT K) ix_tup (pv 10) pe_int (fun _ _ => rfl)) (pa_cons (pe_ix (r := rIxT K) ix_tup (pv 10) pe_int (fun _ _ => rfl)) (pa_cons (pe_c G_law_draw hr (by decide) rfl (pa_cons (pv 2) (pa_cons pe_int pa_nil))) (pa_cons (pe_ix (r := rIxT K) ix_tup (pv 10) pe_int (fun _ _ => rfl)) pa_nil)))))))))
      (C8.pss_cut (ps_setLc (i := 4) (own := [("told", 10)]) (g := gName 10) (by rfl) sc_law.nd rfl rfl (sw_true rfl rfl rfl (by decide +kernel)) (pi_list (pv 3)) (blkOk_by (own := [("told", 10)]) (N := ["script", "k", "stream", "tolds", "some", "odd", "parts", "keys", "hands", "one", "told", "other", "later"]) (sc := defScope s_law) (by decide +kernel)) (fun _ _ _ _ _ => pg_name (i := 10) sc_law.nd rfl (Or.inl rfl)) (fun _ _ _ _ _ => pts_nil) (fun _ _ _ _ _ => (pe_c G_law_contents hr (by decide) rfl (pa_cons (pv 10) pa_nil))))
      (C8.pss_cut (ps_for PassesOwn.never rfl (RZ.pi_zipA (by rfl) W8.b_zip (pa_cons (pv 4) (pa_cons (pv 3) pa_nil))) (pg_tup rfl (pgs_cons (pg_name (i := 9) sc_law.nd rfl (Or.inl rfl)) (pgs_cons (pg_name (i := 10) sc_law.nd rfl (Or.inl rfl)) pgs_nil))) (pss_one (ps_for PassesOwn.never rfl (RZ.pi_zipA (by rfl) W8.b_zip (pa_cons (pv 4) (pa_cons (pv 3) pa_nil))) (pg_tup rfl (pgs_cons (pg_name (i := 11) sc_law.nd rfl (Or.inl rfl)) (pgs_cons (pg_name (i := 12) sc_law.nd rfl (Or.inl rfl)) pgs_nil))) (pss_cons (ps_if (pt_cmpR op_ne (pe_callB (call_shw g hu) (by rfl) T.b_repr (by decide +kernel) (pa_cons (pe_m M_takes J.cl hr (by decide) (pv 9) (pa_cons (pv 11) pa_nil)) pa_nil)) (pe_callB (call_shw g hu) (by rfl) T.b_repr (by decide +kernel) (pa_cons (pe_c G_law_vouched hr (by decide) rfl (pa_cons (pv 10) (pa_cons (pv 12) pa_nil))) pa_nil)) (nomark _)) (pss_one (ps_ret pe_bl)) pss_nil)
      (pss_one (ps_if (PW.pt (pw_or (pt_cmpR op_ne (pe_cmpR (op_c M_eq hr (by decide)) (pv 9) (pv 11) (nomark _)) (pe_cmpR op_eq (pe_cG G_law_key g hr (by decide) rfl (pa_cons (pv 10) pa_nil)) (pe_cG G_law_key g hr (by decide) rfl (pa_cons (pv 12) pa_nil)) (nomark _)) (nomark _)) (pw_or1 (pt_cmpR op_eq (pe_cmpR (op_ne_c M_eq J.ne J.mro hr (by decide)) (pv 9) (pv 11) (nomark _)) (pe_cmpR (op_c M_eq hr (by decide)) (pv 9) (pv 11) (nomark _)) (nomark _))))) (pss_one (ps_ret pe_bl)) pss_nil))))))
      (C8.pss_cut (ps_for PassesOwn.never rfl (pi_list (pe_lst (pa_cons pe_non (pa_cons pe_int (pa_cons pe_str (pa_cons (pe_lst pa_nil) (pa_cons (pe_ix (r := rIxL K) ix_list (pv 3) pe_int (fun _ _ => rfl)) pa_nil))))))) (pg_name (i := 5) sc_law.nd rfl (Or.inl rfl)) (pss_one (ps_if (pt_cmpR (op_c M_eq hr (by decide)) (pe_ix (r := rIxL K) ix_list (pv 4) pe_int (fun _ _ => rfl)) (pv 5) (nomark _)) (pss_one (ps_ret pe_bl)) pss_nil)))
      (pss_one (ps_if (PW.pt (pw_or (pt_not (pt_val (pe_cG G_law_changed_right g hr (by decide) rfl (pa_cons (pv 2) (pa_cons (pe_ix (r := rIxL K) ix_list (pv 3) pe_int (fun _ _ => rfl)) (pa_cons (pv 7) (pa_cons (pv 8) pa_nil))))))) (pw_or1 (pt_not (pt_val (pe_cG G_law_refused_right g hr (by decide) rfl (pa_cons (pe_ix (r := rIxL K) ix_list (pv 4) pe_int (fun _ _ => rfl)) (pa_cons (pe_ix (r := rIxL K) ix_list (pv 6) pe_int (fun _ _ => rfl)) pa_nil)))))))) (pss_one (ps_ret pe_bl)) pss_nil))))))))))
      (pss_one (ps_ret pe_bl))), ?_⟩
  refine ⟨_, rfl, a, _, rfl, .inl hS, _, _, rfl, _, _, rfl, _, rfl, by split <;> split <;> omega, by rw [List.length_map]; split <;> split <;> omega, ?_⟩
  have tn : ∀ i : Nat, i < (if (if ((ns.map V.int).length : Int) < 10 then ((ns.map V.int).length : Int) else 10) > 1 then (if ((ns.map V.int).length : Int) < 10 then ((ns.map V.int).length : Int) else 10) else 1).toNat → i ≤ 1000 := by
    intro i hi
    rw [List.length_map] at hi
    split at hi <;> split at hi <;> omega
  have hSn : SqL K (noT H) a (ns.map V.int) := by
    rcases hS with h | h
    · left
      rcases h with h | ⟨o, h⟩
      · exact .inl (noT_at h fun _ z => nomatch z)
      · exact .inr ⟨o, noT_at h fun _ z => nomatch z⟩
    · exact .inr h
  show Exists _
  refine for_range (lo := 0) (fun i sg H' => ∃ v1 v2 v3 v4 v5 v6 v7 v8 v9 v10 v11 v12 : Option V, sg = [some (.ref a), v1, v2, v3, v4, v5, v6, v7, v8, v9, v10, v11, v12] ∧ LamX.ExtN H H' ∧ LamX.Tabs [(P0, qlam)] H') ⟨_, _, _, _, _, _, _, _, _, _, _, _, rfl, .refl H, t0⟩ ?_ ?_
  · rintro i sg H1 hi ⟨v1, v2, v3, v4, v5, v6, v7, v8, v9, v10, v11, v12, rfl, s1, t1⟩
    have hk := tn i hi
    clear tn hi
    have ei : (0 : Int) + (i : Nat) = ((i : Nat) : Int) := by omega
    rw [ei]
    have hS1 : SqL K H1 a (ns.map V.int) := ((noT_ext s1).trans noT_same).seq hSn
    refine ⟨_, rfl, _, rfl, a, ns, i, rfl, hS1, hk, fun p x y np hx => ?_⟩
    have sA : Same H1 (upd H1 p (.lst [.int x, .int y])) := same_new np
    have stA : StA (upd H1 p (.lst [.int x, .int y])) p := ⟨x, y, upd_same, hx⟩
    have tA := Tabs.same t1 sA
    generalize upd H1 p (.lst [.int x, .int y]) = HA at *
    refine ⟨fun σ' H' => ∃ l1 l2 l3 parts keys hands, σ' = sgL a i p l1 l2 l3 v3 v4 v5 v9 v10 v11 v12 ∧ Ww parts keys hands ∧ LwS P0 p l1 l2 l3 parts keys hands H1 H', ?_, ?_⟩
    · refine ⟨_, rfl, _, rfl, use_draw stA (by decide) (by decide) fun v HB v0 v1 stB sB => ⟨_, _, rfl, rfl, p, 1 + v, rfl, by omega, by omega, stB, fun l1 parts HC nl1 l1p pl pw pn e1 stC sC => ?_⟩⟩
      refine ⟨_, rfl, p, 5, rfl, by decide, by decide, stC, fun l2 keys HD nl2 l2p kl kw kn e2 stD sD => ?_⟩
      refine ⟨_, rfl, p, 4, rfl, by decide, by decide, stD, fun l3 hands HE nl3 l3p hl_ hw hn e3 stE sE => ⟨_, _, _, rfl, ?_⟩⟩
      have kl5 : keys.length = 5 := kl
      have hl4 : hands.length = 4 := hl_
      exact ⟨l1, l2, l3, parts, keys, hands, rfl, ⟨⟨by omega, by omega, by omega, by omega, kn, by omega, by omega, hn⟩, pn, by omega, by omega, pw, kw, hw⟩,
        ⟨⟨stE, (sD.trans sE) _ _ e1 l1p, sE _ _ e2 l2p, e3⟩, SameB.out sA (sB.trans (sC.trans (sD.trans sE))) np, Tabs.keepB tA stA (sB.trans (sC.trans (sD.trans sE))), np⟩⟩
    clear stA tA sA
    clear HA
    rintro _ HA ⟨l1, l2, l3, parts, keys, hands, rfl, ww, lw⟩
    refine ⟨fun σ' H' => ∃ f qs ds, σ' = sgL a i p l1 l2 l3 (some (.ref f)) v4 v5 v9 v10 v11 v12 ∧ LwS P0 p l1 l2 l3 parts keys hands H1 H' ∧ H' f = some (.lst (qs.map V.ref)) ∧ TdsAt parts keys hands H' qs ds ∧ qs.length = 5, ?_, ?_⟩
    · refine ⟨_, rfl, _, rfl, _, rfl, _, rfl, use_tolds (n := 4) lw.g ww.n (by decide) (by decide) fun f qs ds HB nf fp ql ef td stB sB => ?_⟩
      have lwB := lw.keep sB stB
      refine ⟨_, rfl, _, rfl, _, rfl, _, rfl, use_toldI lwB.g ww.n fun q d HC tg nq tdq stC sC => ⟨by show 1 ≤ sizeLine; decide, fun m nm => ?_⟩⟩
      have s1' := same_new (o := .lst [.ref q]) nm
      have lwC := lwB.keep sC stC
      have efC := sC _ _ ef fp
      refine ⟨f, m, _, _, rfl, rfl, s1' _ _ efC, upd_same, by rw [List.length_map, ql]; show 5 ≤ sizeLine; decide, fun f2 nf2 => ?_⟩
      have s2' := same_new (o := .lst (qs.map V.ref ++ [.ref q])) nf2
      exact ⟨f2, qs ++ [q], ds ++ [d], rfl, lwC.same (s1'.trans s2'), by rw [upd_same, List.map_append]; rfl, ((td.keep stB sC).same (s1'.trans s2')).app (.cons (tdq.same (s1'.trans s2')) tg .nil), by rw [List.length_append, ql]; rfl⟩
    clear lw
    clear HA
    rintro _ HA ⟨f, qs, ds, rfl, lw, ef, td, ql⟩
    refine ⟨fun σ' H' => ∃ f qs ds, σ' = sgL a i p l1 l2 l3 (some (.ref f)) v4 v5 v9 v10 v11 v12 ∧ LwS P0 p l1 l2 l3 parts keys hands H1 H' ∧ H' f = some (.lst (qs.map V.ref)) ∧ TdsAt parts keys hands H' qs ds ∧ qs.length = 7, ?_, ?_⟩
    · refine ⟨_, rfl, _, rfl, _, rfl, f, _, rfl, SqL.of ef, fun l0 nl0 => ?_⟩
      have c2 : cutV (qs.map V.ref) none (some 2) = (qs.take 2).map V.ref := by
        rw [List.map_take]
        exact cut_low 2 (by rw [List.length_map]; omega)
      rw [c2]
      have sB1 := same_new (o := .lst ((qs.take 2).map V.ref)) nl0
      have el0 : upd HA l0 (.lst ((qs.take 2).map V.ref)) l0 = some (.lst ((qs.take 2).map V.ref)) := upd_same
      have lwB := lw.same sB1
      have tdB := td.same sB1
      have efB := sB1 _ _ ef
      generalize upd HA l0 (.lst ((qs.take 2).map V.ref)) = HB at *
      refine ⟨l0, rfl, ⟨_, SqL.of el0⟩, fun D nD => ?_⟩
      have nDm : ∀ {q : Addr} {o : HO}, HB q = some o → q ∉ [D] := fun e m => by rw [List.mem_singleton.mp m, nD] at e; cases e
      have Dp := lwB.g.st.ne nD
      refine lc_list (K := K) (a := l0) (xs := (qs.take 2).map V.ref) (fun i H' => ∃ qs2 ds2, H' D = some (.lst (qs2.map V.ref)) ∧ qs2.length = i ∧ TdsAt parts keys hands (hid [D] H') qs2 ds2 ∧ StA H' p ∧ SameB p HB (hid [D] H'))
        ⟨[], [], upd_same, rfl, .nil, lwB.g.st.new nD, fun q o e n => hid_in (same_new nD _ _ e) (nDm e)⟩ (fun i H' _ ⟨_, _, _, _, _, _, s⟩ => SqL.of (hid_same _ _ (s _ _ el0 (lwB.g.st.no el0 refs_no)))) ?_ ?_
      · rintro i v H' hv ⟨qs2, ds2, eD, q2l, td2, st', sb⟩
        obtain ⟨q, eq, rfl⟩ := ref_at hv
        have eq' : qs[i]? = some q := by
          rw [List.getElem?_take] at eq
          split at eq
          · exact eq
          · cases eq
        have i2 : i < 2 := by
          rw [List.getElem?_take] at eq
          split at eq
          · assumption
          · cases eq
        obtain ⟨d, _, tq, tg⟩ := tdB.at_ eq'
        have tqh : TdAt (hid [D] H') q d := tq.keep lwB.g.st sb
        obtain ⟨⟨lr, lv, sv, e1, e2, e3, e4⟩, rs⟩ := id tqh
        have e1' := hid_same _ _ e1
        have sth : StA (hid [D] H') p := by
          obtain ⟨x0, y0, e, h⟩ := st'
          exact ⟨x0, y0, hid_in e (fun m => Dp (List.mem_singleton.mp m).symm), h⟩
        refine ⟨rfl, yes_if ⟨_, rfl, q, _, 0, _, rfl, rfl, SqT.of e1', atI_nat (j := 0) rfl, _, rfl, q, _, 1, _, rfl, rfl, SqT.of e1', atI_nat (j := 1) rfl, _, rfl, use_draw st' (by decide) (by decide) fun v Hx v0 v1 stx sx => ⟨_, rfl, q, _, 3, _, rfl, rfl, SqT.of (sx _ _ e1' (st'.no e1' fun _ _ z => nomatch z)), atI_nat (j := 3) rfl, by show 4 ≤ sizeLine; decide, fun t nt => ?_⟩⟩⟩
        have eDx := sx _ _ eD Dp
        have tD : t ≠ D := fun e => by rw [e, eDx] at nt; cases nt
        have st2 := same_new (o := .tup [.ref lr, .ref lv, .int v, sv]) nt
        have et : upd Hx t (.tup [.ref lr, .ref lv, .int v, sv]) t = some (.tup [.ref lr, .ref lv, .int v, sv]) := upd_same
        generalize upd Hx t (.tup [.ref lr, .ref lv, .int v, sv]) = Hy at *
        have hk : SameB p (hid [D] H') (hid [D] Hy) := (hid_keepB sx).trans (SameB.of (hid_keep st2))
        have tqy : TdAt (hid [D] Hy) q d := tqh.keep sth hk
        have dT : TdAt (hid [D] Hy) t ⟨d.rows, d.vo, v, d.sg⟩ := by
          refine ⟨⟨lr, lv, sv, hid_in et (fun m => tD (List.mem_singleton.mp m)), hk _ _ e2 (sth.no e2 refs_no), hk _ _ e3 (sth.neS e3), e4.keep sth hk⟩, tqy.rows⟩
        refine ⟨_, st2 _ _ eDx, by rw [List.length_map, q2l, sizeLine_eq]; omega, qs2 ++ [t], ds2 ++ [⟨d.rows, d.vo, v, d.sg⟩], by rw [upd_same, List.map_append]; rfl, by rw [List.length_append, q2l]; rfl, ?_, ?_, ?_⟩
        · rw [hid_mut]
          exact (td2.keep sth hk).app (.cons dT ⟨tg.zs, tg.rows, tg.vo, ⟨v0, (by omega : v ≤ 4)⟩, tg.sg⟩ .nil)
        · obtain ⟨x0, y0, e, h⟩ := stx
          exact ⟨x0, y0, by rw [upd_ne Dp.symm]; exact st2 _ _ e, h⟩
        · rw [hid_mut]
          exact sb.trans hk
      · rintro HE ⟨qs2, ds2, eD, q2l, td2, stE, sb⟩
        rw [List.length_map, List.length_take, ql] at q2l
        have sE : SameB p HB HE := fun q o e n => hid_same _ _ (sb _ _ e n)
        have lwE := lwB.keep sE stE
        refine ⟨f, D, _, _, rfl, rfl, sE _ _ efB (lwB.g.st.no efB refs_no), eD, by rw [List.length_map, List.length_map, ql, q2l]; show 7 ≤ sizeLine; decide, fun f2 nf2 => ?_⟩
        have s2' := same_new (o := .lst (qs.map V.ref ++ qs2.map V.ref)) nf2
        exact ⟨f2, qs ++ qs2, ds ++ ds2, rfl, lwE.same s2', by rw [upd_same, List.map_append], ((tdB.keep lwB.g.st sE).app (td2.same hid_same)).same s2', by rw [List.length_append, ql, q2l]; rfl⟩
    clear lw ef td ql
    clear HA
    rintro _ HA ⟨f, qs, ds, rfl, lw, ef, td, ql⟩
    refine ⟨fun σ' H' => ∃ x xs, σ' = sgL a i p l1 l2 l3 (some (.ref f)) (some (.ref x)) v5 v9 v10 v11 v12 ∧ LwS P0 p l1 l2 l3 parts keys hands H1 H' ∧ H' f = some (.lst (qs.map V.ref)) ∧ TdsAt parts keys hands H' qs ds ∧ H' x = some (.lst (xs.map V.ref)) ∧ OneL p C H' xs ds, ?_, ?_⟩
    · refine ⟨_, rfl, f, rfl, ⟨_, SqL.of ef⟩, fun D nD => ?_⟩
      have nDm : ∀ {q : Addr} {o : HO}, HA q = some o → q ∉ [D] := fun e m => by rw [List.mem_singleton.mp m, nD] at e; cases e
      refine lc_list (K := K) (a := f) (xs := qs.map V.ref) (fun i H' => ∃ xs, H' D = some (.lst (xs.map V.ref)) ∧ OneL p C (hid [D] H') xs (ds.take i) ∧ Same HA (hid [D] H')) ⟨[], upd_same, .nil, fun q o e => hid_in (same_new nD _ _ e) (nDm e)⟩ (fun i H' _ ⟨_, _, _, s⟩ => SqL.of (hid_same _ _ (s _ _ ef))) ?_ ?_
      · rintro i v H' hv ⟨xs, eD, on, s'⟩
        obtain ⟨q, eq, rfl⟩ := ref_at hv
        obtain ⟨d, ed, tq, tg⟩ := td.at_ eq
        have i7 : i < 7 := by
          have := (List.getElem?_eq_some_iff.mp eq).1
          omega
        have sS : Same HA H' := s'.trans hid_same
        refine ⟨rfl, yes_if ⟨_, rfl, q, d, rfl, tq.same sS, tg.r ww, fun z c H2 ca ok ci s2 => ?_⟩⟩
        have hk : Same (hid [D] H') (hid [D] H2) := hid_keep s2
        have xl := on.len
        rw [List.length_take] at xl
        refine ⟨_, s2 _ _ eD, by rw [List.length_map, xl, sizeLine_eq]; omega, xs ++ [z], by rw [upd_same, List.map_append]; rfl, ?_, ?_⟩
        · rw [hid_mut, List.take_succ, ed]
          refine (on.keep (SameB.of hk)).app (.cons ⟨⟨c, ?_, ok, ci⟩, tg.r ww⟩ .nil)
          have ca2 : CAt (fun q => H' q = none) C (hid [D] H2) z c := ca.keep fun q o e n => hid_in e fun m => by rw [List.mem_singleton.mp m, eD] at n; cases n
          exact cat_p (lw.g.st.keep sS) ca2
        · rw [hid_mut]
          exact s'.trans hk
      · rintro HE ⟨xs, eD, on, s'⟩
        have sS : Same HA HE := s'.trans hid_same
        rw [List.length_map] at on
        have dl : ds.length = qs.length := td.len.symm
        rw [← dl, List.take_length] at on
        exact ⟨D, xs, rfl, lw.same sS, sS _ _ ef, td.same sS, eD, on.keep (SameB.of hid_same)⟩
    clear lw ef td
    clear HA
    rintro _ HA ⟨x0, xs, rfl, lw, ef, td, exs, on⟩
    have xl : xs.length = qs.length := on.len.trans td.len.symm
    refine ⟨fun σ' H' => ∃ v9 v10 v11 v12, σ' = sgL a i p l1 l2 l3 (some (.ref f)) (some (.ref x0)) v5 v9 v10 v11 v12 ∧ Same HA H', ?_, ?_⟩
    · refine for_zip (a := x0) (b := f) (xs := xs.map V.ref) (ys := qs.map V.ref) rfl rfl exs ef (by rw [List.length_map, List.length_map]; exact xl) (fun j σ' H' => ∃ v9 v10 v11 v12, σ' = sgL a i p l1 l2 l3 (some (.ref f)) (some (.ref x0)) v5 v9 v10 v11 v12 ∧ Same HA H') ⟨_, _, _, _, rfl, .refl _⟩ (fun j σ' H' ⟨_, _, _, _, _, s⟩ => s) ?_ ?_
      · rintro j v w T0 σ' H' hv hw ⟨v9, v10, v11, v12, rfl, s'⟩ nT
        obtain ⟨x, ex, rfl⟩ := ref_at hv
        obtain ⟨q, eq, rfl⟩ := ref_at hw
        obtain ⟨d, ed, ox⟩ := on.at_ ex
        obtain ⟨d', ed', tq, tg⟩ := td.at_ eq
        cases ed.symm.trans ed'
        have sT := same_new' (o := .tup [.ref x, .ref q]) s' nT
        refine ⟨T0, _, rfl, SqT.of upd_same, rfl, _, _, rfl, _, _, rfl, rfl, ?_⟩
        generalize upd H' T0 (.tup [.ref x, .ref q]) = HB at *
        refine for_zip (a := x0) (b := f) (xs := xs.map V.ref) (ys := qs.map V.ref) rfl rfl (sT _ _ exs) (sT _ _ ef) (by rw [List.length_map, List.length_map]; exact xl) (fun j σ' H' => ∃ v11 v12, σ' = sgL a i p l1 l2 l3 (some (.ref f)) (some (.ref x0)) v5 (some (.ref x)) (some (.ref q)) v11 v12 ∧ Same HB H') ⟨_, _, rfl, .refl _⟩ (fun j σ' H' ⟨_, _, _, s⟩ => s) ?_ ?_
        · rintro j2 v w T1 σ' H2 hv hw ⟨v11, v12, rfl, s2⟩ nT1
          obtain ⟨y, ey, rfl⟩ := ref_at hv
          obtain ⟨q2, eq2, rfl⟩ := ref_at hw
          obtain ⟨e, ee, oy⟩ := on.at_ ey
          obtain ⟨e', ee', tq2, tg2⟩ := td.at_ eq2
          cases ee.symm.trans ee'
          have sT1 := same_new' (o := .tup [.ref y, .ref q2]) s2 nT1
          refine ⟨T1, _, rfl, SqT.of upd_same, rfl, _, _, rfl, _, _, rfl, rfl, ?_⟩
          generalize upd H2 T1 (.tup [.ref y, .ref q2]) = HC at *
          have sC := sT.trans sT1
          obtain ⟨⟨c, ca, okc, ci⟩, tr⟩ := ox.same sC
          obtain ⟨⟨e2, ca2, okc2, ci2⟩, tr2⟩ := oy.same sC
          obtain ⟨dx, fa, fb, fn, fs, ex1⟩ := (ox.same sC).ins
          have sgl : (sgT e).length ≤ 500 := by have := (sgT_wd tr2).le; omega
          have sil : e2.si.length ≤ 500 := by have := okc2.si.le; omega
          have not : ∀ {a b s : Addr} {n : Int}, (cflds a b n s).lookup ("takes" : Str) = none := get_no _ _ _ _ (by decide +kernel) (by decide +kernel) (by decide +kernel) (by decide +kernel)
          refine ⟨_, rfl, x, dx, _, rfl, ex1, not, _, rfl, x, y, c, e2, _, _, rfl, ca, ca2, sil, fun H3 s3 => ⟨.bl _, _, rfl, .bl _, ?_⟩⟩
          refine ⟨_, rfl, _, rfl, q, q2, d, e, rfl, (tq.same sC).same s3, (tq2.same sC).same s3, sgl, fun H4 s4 => ⟨.bl _, _, rfl, .bl _, rfl, _, rfl, ?_⟩⟩
          rw [vou_takes ci ci2]
          refine iteFe (by rw [decide_eq_true rfl]; rfl) ?_
          have sD := sC.trans (s3.trans s4)
          have s34 := s3.trans s4
          obtain ⟨dy, ga, gb, gn, gs, ey1⟩ := (oy.same sC).ins
          have fx := s34 _ _ ex1
          have fy := s34 _ _ ey1
          have ct := ct_text tr tr2 ci ci2
          refine ⟨_, rfl, _, rfl, x, dx, _, .ref C, rfl, fx, J.ty fy, J.oCC, x, .ref y, c, _, rfl, ca.same s34, okc, .inl ⟨y, e2, _, rfl, ca2.same s34, okc2, ?_⟩⟩
          refine ⟨_, rfl, q, d, rfl, tq.same sD, tr.few, shn_ky tr, fun H5 s5 => ⟨_, rfl, q2, e, rfl, (tq2.same sD).same s5, tr2.few, shn_ky tr2, fun H6 s6 => ⟨rfl, rfl, _, rfl, ?_⟩⟩⟩
          have eqs : decide (V.str (kyT d).shown = V.str (kyT e).shown) = decide ((kyT d).shown = (kyT e).shown) := decide_eq_decide.mpr ⟨fun z => V.str.inj z, fun z => by rw [z]⟩
          rw [eqs, ← ct]
          refine iteFe (by rw [decide_eq_true rfl]; rfl) ?_
          have s46 := s34.trans (s5.trans s6)
          have fx6 := s46 _ _ ex1
          have fy6 := s46 _ _ ey1
          refine ⟨_, rfl, _, rfl, x, dx, _, .ref C, rfl, fx6, J.ty fy6, J.oCC, x, .ref y, c, _, rfl, ca.same s46, okc, .inl ⟨y, e2, _, rfl, ca2.same s46, okc2, _, rfl, ?_⟩⟩
          refine ⟨_, rfl, _, rfl, x, dx, _, .ref C, rfl, fx6, J.ty fy6, J.oCC, x, .ref y, c, _, rfl, ca.same s46, okc, .inl ⟨y, e2, _, rfl, ca2.same s46, okc2, rfl, _, rfl, ?_⟩⟩
          have nb : decide (V.bl (!ctB c e2) = V.bl (ctB c e2)) = false := decide_eq_false fun z => by
            have z := V.bl.inj z
            cases h : ctB c e2 <;> rw [h] at z <;> cases z
          exact iteFe nb ⟨_, _, rfl, sT1.trans (s34.trans (s5.trans s6))⟩
        · rintro σ' H2 ⟨v11, v12, rfl, s2⟩
          exact ⟨_, _, _, _, rfl, sT.trans s2⟩
      · rintro σ' H2 ⟨v9, v10, v11, v12, rfl, s2⟩
        exact ⟨_, _, _, _, rfl, s2⟩
    clear v9 v10 v11 v12
    rintro _ HB ⟨v9, v10, v11, v12, rfl, sAB⟩
    have lwB := lw.same sAB
    have efB := sAB _ _ ef
    have exB := sAB _ _ exs
    have tdB := td.same sAB
    have onB : OneL p C HB xs ds := on.keep (SameB.of sAB)
    clear lw ef exs td on sAB
    clear HA
    obtain ⟨q0, qs', rfl⟩ : ∃ q0 qs', qs = q0 :: qs' := by
      match qs, ql with
      | q0 :: qs', _ => exact ⟨q0, qs', rfl⟩
    obtain ⟨x1, xs', rfl⟩ : ∃ x1 xs', xs = x1 :: xs' := by
      match xs, xl with
      | x1 :: xs', _ => exact ⟨x1, xs', rfl⟩
    obtain ⟨d, ed, tq, tg⟩ := tdB.at_ (i := 0) (q := q0) rfl
    obtain ⟨d', ed', ox⟩ := onB.at_ (i := 0) (x := x1) rfl
    cases ed.symm.trans ed'
    refine ⟨fun σ' H' => ∃ v5, σ' = sgL a i p l1 l2 l3 (some (.ref f)) (some (.ref x0)) v5 v9 v10 v11 v12 ∧ Same HB H', ?_, ?_⟩
    · unfold tFor iList
      refine ⟨by show 0 ≤ sizeLine; decide, fun e0 ne0 => ⟨_, rfl, f, _, 0, _, rfl, rfl, SqL.of (same_new ne0 _ _ efB), atI_nat (j := 0) rfl, by show 5 ≤ sizeLine; decide, fun l nl => ?_⟩⟩
      have se := same_new (o := .lst []) ne0
      have ee := upd_same (H := HB) (a := e0) (o := .lst [])
      generalize upd HB e0 (.lst []) = HC at *
      have sl := same_new (o := .lst [.non, .int 5, .str "", .ref e0, .ref q0]) nl
      refine ⟨l, rfl, ⟨_, SqL.of upd_same⟩, ?_⟩
      show Exists _
      refine for_list (K := K) (a := l) (xs := [.non, .int 5, .str "", .ref e0, .ref q0]) (D := { nx := fun σ' H' => ∃ v5, σ' = sgL a i p l1 l2 l3 (some (.ref f)) (some (.ref x0)) v5 v9 v10 v11 v12 ∧ Same HB H', rt := _, bk := _, ct := _ }) (fun j σ' H' => ∃ v5, σ' = sgL a i p l1 l2 l3 (some (.ref f)) (some (.ref x0)) v5 v9 v10 v11 v12 ∧ Same (upd HC l (.lst [.non, .int 5, .str "", .ref e0, .ref q0])) H') ⟨_, rfl, .refl _⟩ (fun j σ' H' _ ⟨_, _, s⟩ => SqL.of (s _ _ upd_same)) ?_ ?_
      · rintro j y σ' H' hy ⟨v5', rfl, s'⟩
        have sF := (se.trans sl).trans s'
        obtain ⟨t, ty, nf, kf⟩ : ∃ t, TyX K H' y t ∧ PySem.W.notFirst K C t = true ∧ PySem.W.kitOne K t (.ref C) = some false := by
          have hm := List.mem_of_getElem? hy
          simp only [List.mem_cons, List.not_mem_nil, or_false] at hm
          obtain ⟨a0, b0, c0, g0, fr⟩ := tq.four
          rcases hm with rfl | rfl | rfl | rfl | rfl
          · exact ⟨_, .base .non, J.oN, J.kN⟩
          · exact ⟨_, .base (.int _), J.oI, J.kI⟩
          · exact ⟨_, .base (.str _), J.oS, J.kS⟩
          · exact ⟨_, .base (.lst ((sl.trans s') _ _ ee)), J.oL, J.kL⟩
          · exact ⟨_, .base (.tup (sF _ _ fr)), J.oT, J.kT⟩
        obtain ⟨⟨c, ca, okc, ci⟩, tr⟩ := ox.same sF
        obtain ⟨dx, fa, fb, fn, fs, ex1⟩ := (ox.same sF).ins
        exact ⟨_, rfl, x0, _, 0, _, rfl, rfl, SqL.of (sF _ _ exB), atI_nat (j := 0) rfl, _, rfl, x1, dx, _, t, rfl, ex1, ty, nf, x1, y, c, _, rfl, ca, okc, .inr ⟨t, ty, kf, _, rfl, iteFe rfl ⟨_, rfl, s'⟩⟩⟩
      · rintro σ' H' ⟨v5', rfl, s'⟩
        exact ⟨_, rfl, (se.trans sl).trans s'⟩
    rintro _ HA ⟨v5', rfl, sBA⟩
    have lwA := lwB.same sBA
    refine ⟨_, rfl, _, rfl, f, _, 0, _, rfl, rfl, SqL.of (sBA _ _ efB), atI_nat (j := 0) rfl, _, rfl, _, rfl, p, q0, l2, l3, d, parts, keys, hands, rfl, lwA.g.st, tq.same sBA, tg, ww, lwA.g.e2, lwA.g.e3, fun H2 st2 sb2 => ⟨_, rfl, iteFe rfl ?_⟩⟩
    have lw2 := lwA.keep sb2 st2
    obtain ⟨⟨c, ca, okc, ci⟩, tr⟩ := (ox.same sBA).keep sb2
    obtain ⟨z0, rest, ep⟩ : ∃ z0 rest, parts = z0 :: rest := by
      have := ww.n.p0
      match parts, this with
      | z0 :: rest, _ => exact ⟨z0, rest, rfl⟩
    have zin : z0 ∈ c.us.map (·.z) := by
      rw [ci.zs, tg.zs, ep]
      exact srtW_mem.mpr List.mem_cons_self
    refine ⟨_, rfl, x0, _, 0, _, rfl, rfl, SqL.of (sb2 _ _ (sBA _ _ exB) (lwA.g.st.no (sBA _ _ exB) refs_no)), atI_nat (j := 0) rfl, _, rfl, l1, _, 0, .str z0, rfl, rfl, SqL.of lw2.g.e1, atI_nat (j := 0) (by rw [ep]; rfl), x1, z0, c, _, rfl, ca.noT, okc, zin, ww.pw z0 (by rw [ep]; exact List.mem_cons_self), lw2.tb, fun H3 e3 t3 => ⟨_, rfl, iteFe rfl ?_⟩⟩
    exact ⟨_, _, _, _, _, _, _, _, _, _, _, _, rfl, s1.trans ((LamX.ExtN.of lw2.sm).trans e3), t3⟩
  · rintro sg H1 ⟨v1, v2, v3, v4, v5, v6, v7, v8, v9, v10, v11, v12, rfl, s1, t1⟩
    exact k _
end

end K08

namespace K08
open PySem PySem.Spec PyProof.Rows L2 Jg
local macro_rules | `(tactic| walk_at "rd1") => `(tactic| (first
  | refine ⟨_, rfl, ?_⟩
  | refine ⟨_, _, rfl, rfl, ?_⟩
  | refine ⟨_, _, rfl, ?_⟩
  | refine ⟨rfl, ?_⟩
  | (refine ⟨show (0 : Int) < _ by omega, ?_⟩)
  | (refine ⟨Or.inl ⟨by omega, by omega⟩, ?_⟩)
  | (refine ⟨Or.inr ⟨by omega, by omega⟩, ?_⟩)
  | (refine ⟨(⟨by decide, by decide, by decide⟩ : CPow _ _), ?_⟩)
  | refine Or.inl ⟨_, rfl, ?_⟩
  | refine Or.inr ⟨_, rfl, ?_⟩
  | fail "rd"))
local macro_rules | `(tactic| walk_at "rd") => `(tactic| repeat' walk_at "rd1")


theorem ExnQ.of {K : PySem.W.Frag} {h : Heap} {mg : Str → Option Value} {x : Str} {CI : Addr} {qual : Str} {st : Stmt} {f : Str} {B nid iid : String} {line : List Value} {fI : Addr} {oc : Value} {od an : Option Addr} {osl : Array (Option Value)} {kV doc pm cdv ct : Value}
    (X : K.In h) (G : h.Ns mainGlobals mg) (fB : ExcBaseFacts B nid iid line) (sB : StoreFacts B line "object.__setattr__" "object") (aI : PySem.W.nsIn K mainGlobals x = some (some (.ref CI))) (xI : PySem.W.excInitIn K CI line nid = true) (xO : PySem.W.excOver K CI line = true)
    (sa : PySem.W.findIn K (.ref CI) "__setattr__" = some (some (.builtin "object.__setattr__"))) (exC : PySem.W.subIn K (.ref CI) (.type "BaseException") = some true) (tyC : PySem.W.typeIn K (.ref CI) = some (.type "type")) (kC : PySem.W.keepIn K (.ref CI) = true)
    (ga : PySem.W.findIn K (.ref CI) "__getattribute__" = some (some (.builtin "BaseException.__getattribute__"))) (gg : PySem.W.findIn K (.ref CI) "__getattr__" = some none) (hdC : PySem.W.hasDictIn K CI = true)
    (ha : PySem.W.findIn K (.ref CI) "__class__" = some (some (.builtin "object.__class__"))) (hn : PySem.W.specialIn K (.builtin "object.__class__") "__get__" = some (some (.builtin "getset_descriptor.__get__"))) (ht : PySem.W.takesIn K (.builtin "object.__class__") = some true) (hm : PySem.W.mroIn K CI (.type "object") = some true)
    (no : PySem.W.findIn K (.ref CI) f = some none) (iI : PySem.W.findIn K (.ref CI) "__init__" = some (some (.ref fI))) (tI : PySem.W.typeIn K (.ref fI) = some (.type "function"))
    (l : K.lookup fI = some ⟨oc, od, .func (PySem.W.fnOf "__init__" qual (defArgs st) (defBody st) (defScope st) .none kV doc pm an cdv ct), osl⟩) (c : PySem.W.codeIn K cdv qual = true) (k : PySem.W.keepIn K (.ref fI) = true)
    (sC : PySem.W.subIn K (.ref CI) (.ref CI) = some true) : ExnQ K mg x CI qual st f :=
  ⟨PySem.W.mg_of X G aI, ⟨B, nid, iid, line, fB, sB, xI, xO, hdC, sa, exC, tyC, kC⟩, ⟨⟨ga, gg, exC, hdC⟩, ha, hn, ht, hm⟩, no, ⟨fI, _, fun_mk l c k, iI, tI⟩, PySem.W.exm_ref exC hdC tyC sC⟩
theorem Txt.of {K : PySem.W.Frag} {mg : Str → Option Value} {h : Heap} {t_g_MOST_ROLES : Tok} {t_g_MOST_ACCEPTED : Tok} {t_g_MOST_VOUCHERS : Tok} {t_g_MOST_NEEDED : Tok} (X : K.In h) (G : h.Ns mainGlobals mg) (h_b_isinstance : PySem.W.nsIn K mainGlobals "isinstance" = some none) (h_b_int : PySem.W.nsIn K mainGlobals "int" = some none) (h_b_bool : PySem.W.nsIn K mainGlobals "bool" = some none) (h_b_str : PySem.W.nsIn K mainGlobals "str" = some none) (h_b_list : PySem.W.nsIn K mainGlobals "list" = some none) (h_b_tuple : PySem.W.nsIn K mainGlobals "tuple" = some none) (h_b_dict : PySem.W.nsIn K mainGlobals "dict" = some none) (h_b_len : PySem.W.nsIn K mainGlobals "len" = some none) (h_b_all : PySem.W.nsIn K mainGlobals "all" = some none) (h_b_any : PySem.W.nsIn K mainGlobals "any" = some none) (h_b_set : PySem.W.nsIn K mainGlobals "set" = some none) (h_b_sorted : PySem.W.nsIn K mainGlobals "sorted" = some none) (h_b_max : PySem.W.nsIn K mainGlobals "max" = some none) (h_b_min : PySem.W.nsIn K mainGlobals "min" = some none) (h_b_range : PySem.W.nsIn K mainGlobals "range" = some none) (h_b_repr : PySem.W.nsIn K mainGlobals "repr" = some none) (h_b_sum : PySem.W.nsIn K mainGlobals "sum" = some none) (h_g_MOST_ROLES : PySem.W.nsIn K mainGlobals "_MOST_ROLES" = some (some (.int 3 t_g_MOST_ROLES))) (h_g_MOST_ACCEPTED : PySem.W.nsIn K mainGlobals "_MOST_ACCEPTED" = some (some (.int 8 t_g_MOST_ACCEPTED))) (h_g_MOST_VOUCHERS : PySem.W.nsIn K mainGlobals "_MOST_VOUCHERS" = some (some (.int 4 t_g_MOST_VOUCHERS))) (h_g_MOST_NEEDED : PySem.W.nsIn K mainGlobals "_MOST_NEEDED" = some (some (.int 4 t_g_MOST_NEEDED))) : Txt K mg :=
  ⟨PySem.W.mg_none_of X G h_b_isinstance, PySem.W.mg_none_of X G h_b_int, PySem.W.mg_none_of X G h_b_bool, PySem.W.mg_none_of X G h_b_str, PySem.W.mg_none_of X G h_b_list, PySem.W.mg_none_of X G h_b_tuple, PySem.W.mg_none_of X G h_b_dict, PySem.W.mg_none_of X G h_b_len, PySem.W.mg_none_of X G h_b_all, PySem.W.mg_none_of X G h_b_any, PySem.W.mg_none_of X G h_b_set, PySem.W.mg_none_of X G h_b_sorted, PySem.W.mg_none_of X G h_b_max, PySem.W.mg_none_of X G h_b_min, PySem.W.mg_none_of X G h_b_range, PySem.W.mg_none_of X G h_b_repr, PySem.W.mg_none_of X G h_b_sum, ⟨_, PySem.W.mg_of X G h_g_MOST_ROLES, t_g_MOST_ROLES, rfl⟩, ⟨_, PySem.W.mg_of X G h_g_MOST_ACCEPTED, t_g_MOST_ACCEPTED, rfl⟩, ⟨_, PySem.W.mg_of X G h_g_MOST_VOUCHERS, t_g_MOST_VOUCHERS, rfl⟩, ⟨_, PySem.W.mg_of X G h_g_MOST_NEEDED, t_g_MOST_NEEDED, rfl⟩⟩
theorem CTx.of {K : PySem.W.Frag} {mg : Str → Option Value} {C : Addr} {h : Heap} (X : K.In h) (G : h.Ns mainGlobals mg) (h_cl1 : PySem.W.plainGet K C Str.empty = true) (h_cl2 : PySem.W.hasDictIn K C = true) (h_cl3 : PySem.W.plainOver K C = true) (h_cl4 : PySem.W.findIn K (.ref C) "__setattr__" = some (some (.builtin "object.__setattr__"))) (h_cC : PySem.W.nsIn K mainGlobals "Contents" = some (some (.ref C))) (h_cls_ : PySem.W.findIn K (.ref C) "__class__" = some (some (.builtin "object.__class__"))) (h_cgt : PySem.W.specialIn K (.builtin "object.__class__") "__get__" = some (some (.builtin "getset_descriptor.__get__"))) (h_ctk : PySem.W.takesIn K (.builtin "object.__class__") = some true) (h_mro : PySem.W.mroIn K C (.type "object") = some true) (h_ne : PySem.W.findIn K (.ref C) "__ne__" = some (some (.builtin "object.__ne__"))) (h_kCC : PySem.W.kitOne K (.ref C) (.ref C) = some true) (h_kN : PySem.W.kitOne K (.type "NoneType") (.ref C) = some false) (h_kI : PySem.W.kitOne K (.type "int") (.ref C) = some false) (h_kS : PySem.W.kitOne K (.type "str") (.ref C) = some false) (h_kL : PySem.W.kitOne K (.type "list") (.ref C) = some false) (h_kT : PySem.W.kitOne K (.type "tuple") (.ref C) = some false) (h_kD : PySem.W.kitOne K (.type "dict") (.ref C) = some false) (h_oCC : PySem.W.notFirst K C (.ref C) = true) (h_oN : PySem.W.notFirst K C (.type "NoneType") = true) (h_oI : PySem.W.notFirst K C (.type "int") = true) (h_oS : PySem.W.notFirst K C (.type "str") = true) (h_oL : PySem.W.notFirst K C (.type "list") = true) (h_oT : PySem.W.notFirst K C (.type "tuple") = true) (h_oD : PySem.W.notFirst K C (.type "dict") = true) (h_nu : PySem.W.findIn K (.ref C) "_uses" = some none) (h_nv : PySem.W.findIn K (.ref C) "_vouchers" = some none) (h_nn : PySem.W.findIn K (.ref C) "_needed" = some none) (h_ns : PySem.W.findIn K (.ref C) "_signers" = some none) : CTx K mg C :=
  ⟨⟨h_cl1, h_cl2, h_cl3, h_cl4⟩, PySem.W.mg_of X G h_cC, h_cls_, h_cgt, h_ctk, h_mro, h_ne, h_kCC, h_kN, h_kI, h_kS, h_kL, h_kT, h_kD, h_oCC, h_oN, h_oI, h_oS, h_oL, h_oT, h_oD, h_nu, h_nv, h_nn, h_ns⟩
theorem TstL.of {K : PySem.W.Frag} {mg : Str → Option Value} {h : Heap} (X : K.In h) (G : h.Ns mainGlobals mg) (h_b_zip : PySem.W.nsIn K mainGlobals "zip" = some none) : TstL K mg :=
  ⟨PySem.W.mg_none_of X G h_b_zip⟩
theorem TstF.of {K : PySem.W.Frag} {mg : Str → Option Value} {CU : Addr} {CI : Addr} {CK : Addr} {CG : Addr} {h : Heap} (X : K.In h) (G : h.Ns mainGlobals mg) (h_gG : PySem.W.nsIn K mainGlobals "GapError" = some (some (.ref CG))) (h_xIU : PySem.W.exmOne K (.ref CI) (.ref CU) = some false) (h_xKU : PySem.W.exmOne K (.ref CK) (.ref CU) = some false) (h_xKI : PySem.W.exmOne K (.ref CK) (.ref CI) = some false) (h_kKG : PySem.W.kitOne K (.ref CK) (.ref CG) = some true) : TstF K mg CU CI CK CG :=
  ⟨PySem.W.mg_of X G h_gG, h_xIU, h_xKU, h_xKI, h_kKG⟩
abbrev kws_NN : List (Str × V) := [("needed", .int 1), ("signers", .non)]
theorem Ini_NN {K : PySem.W.Frag} {C D : Addr} {qual : Str} {st : Stmt} {f : Addr} {oc : Value} {od an : Option Addr} {osl : Array (Option Value)} {doc pm cdv ct : Value} {tk0 : Tok}
    (a : PySem.W.findIn K (.ref C) "__init__" = some (some (.ref f))) (i : PySem.W.isFn K (.ref f) = true) (l : K.lookup f = some ⟨oc, od, .func (PySem.W.fnOf "__init__" qual (defArgs st) (defBody st) (defScope st) .none (.ref D) doc pm an cdv ct), osl⟩)
    (c : PySem.W.codeIn K cdv qual = true) (k : PySem.W.keepIn K (.ref f) = true) (d0 : PySem.W.nsIn K D "needed" = some (some (.int 1 tk0))) (d1 : PySem.W.nsIn K D "signers" = some (some .none)) : IniK K C qual st kws_NN :=
  IniK.of a i l c k (.inr ⟨D, rfl, fun q hq => by
    simp only [kws_NN, List.mem_cons, List.not_mem_nil, or_false] at hq
    rcases hq with rfl | rfl
    · exact ⟨(.int 1 tk0), d0, tk0, rfl⟩
    · exact ⟨.none, d1, rfl⟩⟩)
abbrev kws_MC : List (Str × V) := [("accepted", .non), ("used", .non)]
theorem Mth_MC {K : PySem.W.Frag} {C D : Addr} {qual : Str} {st : Stmt} {f : Addr} {oc : Value} {od an : Option Addr} {osl : Array (Option Value)} {doc pm cdv ct : Value} 
    (a : PySem.W.findIn K (.ref C) "changed" = some (some (.ref f))) (i : PySem.W.isFn K (.ref f) = true) (l : K.lookup f = some ⟨oc, od, .func (PySem.W.fnOf "changed" qual (defArgs st) (defBody st) (defScope st) .none (.ref D) doc pm an cdv ct), osl⟩)
    (c : PySem.W.codeIn K cdv qual = true) (k : PySem.W.keepIn K (.ref f) = true) (d0 : PySem.W.nsIn K D "accepted" = some (some .none)) (d1 : PySem.W.nsIn K D "used" = some (some .none)) : MthK K C "changed" qual st kws_MC :=
  MthK.of a i l c k (.inr ⟨D, rfl, fun q hq => by
    simp only [kws_MC, List.mem_cons, List.not_mem_nil, or_false] at hq
    rcases hq with rfl | rfl
    · exact ⟨.none, d0, rfl⟩
    · exact ⟨.none, d1, rfl⟩⟩)
abbrev kws_MR : List (Str × V) := [("vouchers", .non), ("needed", .non), ("signers", .non)]
theorem Mth_MR {K : PySem.W.Frag} {C D : Addr} {qual : Str} {st : Stmt} {f : Addr} {oc : Value} {od an : Option Addr} {osl : Array (Option Value)} {doc pm cdv ct : Value} 
    (a : PySem.W.findIn K (.ref C) "revouched" = some (some (.ref f))) (i : PySem.W.isFn K (.ref f) = true) (l : K.lookup f = some ⟨oc, od, .func (PySem.W.fnOf "revouched" qual (defArgs st) (defBody st) (defScope st) .none (.ref D) doc pm an cdv ct), osl⟩)
    (c : PySem.W.codeIn K cdv qual = true) (k : PySem.W.keepIn K (.ref f) = true) (d0 : PySem.W.nsIn K D "vouchers" = some (some .none)) (d1 : PySem.W.nsIn K D "needed" = some (some .none)) (d2 : PySem.W.nsIn K D "signers" = some (some .none)) : MthK K C "revouched" qual st kws_MR :=
  MthK.of a i l c k (.inr ⟨D, rfl, fun q hq => by
    simp only [kws_MR, List.mem_cons, List.not_mem_nil, or_false] at hq
    rcases hq with rfl | rfl | rfl
    · exact ⟨.none, d0, rfl⟩
    · exact ⟨.none, d1, rfl⟩
    · exact ⟨.none, d2, rfl⟩⟩)
theorem tab_mk {K : PySem.W.Frag} {x : Str} {f c P : Addr} {oc e : Value} {od dd : Option Addr} {fd : FuncData} {osl sl : Array (Option Value)} {vs : Array Value} (a : PySem.W.nsIn K mainGlobals x = some (some (.ref f))) (l : K.lookup f = some ⟨oc, od, .func fd, osl⟩) (hc : fd.code = .ref c)
    (lc : K.lookup c = some ⟨e, dd, .fields vs, sl⟩) (hp : vs[11]? = some (.ref P)) : PySem.W.tabIn K x = some (c, P) := by
  unfold PySem.W.tabIn
  simp only [a, l, hc, lc, hp]
theorem len_cinit {P : Program} {w : World} {K : PySem.W.Frag} {C CI : Addr} : ∀ vs H Q E, spCInit P w K C CI vs H Q E → vs.length = ["self", "roles", "vouchers", "needed", "signers"].length := fun vs H Q E h => by
  obtain ⟨x, dx, r, v, n, s, H0, rfl, _⟩ := h; rfl
theorem mak2 {P : Program} {w : World} {K : PySem.W.Frag} {mg : Str → Option Value} {base : Heap} {C CI : Addr} (D : IniK K C "Contents.__init__" s_Contents_init kws_NN) (m : mg "Contents" = some (.ref C)) (mk : PySem.W.makesIn K C = true) (kp : PySem.W.keepIn K (.ref C) = true)
    (body : ∀ f, BodyX P w K mg base ["self", "roles", "vouchers", "needed", "signers", "part", "role", "accepted", "used"] "Contents.__init__" s_Contents_init f 6 (spCInit P w K C CI)) : MakN P w K mg base (L2.CX P w) 7 "Contents" C 2 ["needed", "signers"] (fun vs zs => vs ++ zs) (spCInit P w K C CI) :=
  D.makN m mk kp sc_Contents_init len_cinit 2 [] (fun us mv ws => us ++ ws) (fun z => nomatch z) (fun q hq => nomatch hq) (fun r1 _ r3 => r1.append r3)
    (fun D doc pm an cdv ct us mv ws h1 h2 h3 => match us, mv, ws, h1, h2, h3 with | [_, _, _], [], [_, _], _, _, _ => rfl) body
theorem fin {P : Program} {w : World} {K : PySem.W.Frag} {mg : Str → Option Value} {fa C CI CU CK CG c0 P0 : Addr} (hfa : mg "law" = some (.ref fa))  {ts : List Addr} (hm : P0 ∈ ts) (ht : PySem.W.codeHdIn K c0 P0 = true) (nT : K.lookup P0 = none) (DL : DefC K mg "_law_refused_right" s_law_refused_right c0)(T : Txt K mg) (J : CTx K mg C) (W8 : TstL K mg) (W9 : TstF K mg CU CI CK CG) (mk1 : PySem.W.makesIn K C = true) (mk2 : PySem.W.keepIn K (.ref C) = true) (I : ExnQ K mg "InvalidContents" CI "InvalidContents.__init__" s_InvalidContents_init "part") (U : ExnQ K mg "UnknownName" CU "UnknownName.__init__" s_UnknownName_init "name") (XV : ExnQ K mg "InvalidKeys" CK "InvalidKeys.__init__" s_InvalidKeys_init "value") (NN : IniK K C "Contents.__init__" s_Contents_init kws_NN) (MC : MthK K C "changed" "Contents.changed" s_Contents_changed kws_MC) (MR : MthK K C "revouched" "Contents.revouched" s_Contents_revouched kws_MR) (d1 : DefK K mg "is_integer" s_is_integer) (d2 : DefK K mg "is_word" s_is_word) (d3 : DefK K mg "is_key_list" s_is_key_list) (d4 : DefK K mg "are_different_keys" s_are_different_keys) (d5 : DefK K mg "_is_use" s_is_use) (d6 : DefK K mg "_are_roles" s_are_roles) (d7 : DefK K mg "_wrong_part" s_wrong_part) (d8 : DefK K mg "_in_order" s_in_order) (d9 : DefK K mg "_remaining" s_remaining) (d10 : PrpK K C "roles" "Contents.roles" s_Contents_roles) (d11 : PrpK K C "vouchers" "Contents.vouchers" s_Contents_vouchers) (d12 : PrpK K C "needed" "Contents.needed" s_Contents_needed) (d13 : PrpK K C "signers" "Contents.signers" s_Contents_signers) (d14 : MetK K C "accepted" "Contents.accepted" s_Contents_accepted) (d15 : MetK K C "used" "Contents.used" s_Contents_used) (d16 : MetK K C "_use" "Contents._use" s_Contents_use) (d17 : MetK K C "__eq__" "Contents.__eq__" s_Contents_eq) (d18 : MetK K C "takes" "Contents.takes" s_Contents_takes) (d19 : MetK K C "without" "Contents.without" s_Contents_without) (d20 : DefK K mg "_law_stream" s_law_stream) (d21 : DefK K mg "_law_draw" s_law_draw) (d22 : DefK K mg "_law_choose" s_law_choose) (d23 : DefK K mg "_law_some" s_law_some) (d24 : DefK K mg "_law_words" s_law_words) (d25 : DefK K mg "_law_told" s_law_told) (d26 : DefK K mg "_law_turned" s_law_turned) (d27 : DefK K mg "_law_next" s_law_next) (d28 : DefK K mg "_law_tolds" s_law_tolds) (d29 : DefK K mg "_law_contents" s_law_contents) (d30 : DefK K mg "_law_vouched" s_law_vouched) (d31 : DefK K mg "_law_key" s_law_key) (d32 : DefK K mg "_law_seen" s_law_seen) (d33 : DefK K mg "_law_with" s_law_with) (d34 : DefK K mg "_law_less" s_law_less) (d35 : DefK K mg "_law_changed_right" s_law_changed_right) (d36 : DefK K mg "_law_failed" s_law_failed) (d37 : DefK K mg "law" s_law) :
    ∃ (c T : Addr) (fd : FuncData) (sp : Sp), T ∈ ts ∧ PySem.W.codeHdIn K c T = true ∧ K.lookup T = none ∧ (∀ (s : Shared) (v : Value), BindsTo s fd ⟨[v], []⟩ [("script", v)]) ∧
      (∀ (H : Hp) (a : Addr) (ns : List Int), ns.length ≤ 63 → H T = some (.tbl #[]) → SqL K H a (ns.map V.int) → sp [.ref a] H (fun v _ => v = .bl true) fun _ _ _ => False) ∧
      ∀ base : Heap, K.In base → base.Ns mainGlobals mg → LamX.TabB base mg c T → FnG P w K mg base CX0 13 fa fd ["script"] sp := by
  obtain ⟨f, fd, F, m⟩ := d37.ex
  rw [hfa] at m
  cases m
  refine ⟨_, _, fd, spLaw K P0, hm, ht, nT, ?_, fun H a ns hl hT hS => ⟨a, ns, rfl, hS, hl, fun p hp => by rw [List.mem_singleton.mp hp]; exact LamX.TabS.nil hT, fun _ => rfl⟩, fun base _ _ TB => ?_⟩
  · obtain ⟨_, _, _, _, _, _, _, _, _, rfl, _, _⟩ := F.ex
    exact fun s v => .of_eq rfl
  · have g1 := ok_is_integer (P := P) (w := w) (base := base)  (by assumption) (by assumption)
    have g2 := ok_is_word (P := P) (w := w) (base := base)  (by assumption) (by assumption)
    have g3 := ok_keys (P := P) (w := w) (base := base)  (by assumption) (by assumption) (by assumption)
    have g4 := ok_order (P := P) (w := w) (base := base)  (by assumption) (by assumption)
    have g5 := ok_use (P := P) (w := w) (base := base)  (by assumption) (by assumption) (by assumption) (by assumption)
    have g6 := ok_roles (P := P) (w := w) (base := base)  (by assumption) (by assumption) (by assumption) (by assumption)
    have g7 := ok_wrong (P := P) (w := w) (base := base)  (by assumption) (by assumption) (by assumption) (by assumption) (by assumption)
    have g8 := ok_cxinit (P := P) (w := w) (base := base)  (by assumption)
    have g9 := ok_uinit (P := P) (w := w) (base := base)  (by assumption)
    have g10 := ok_ckinit (P := P) (w := w) (base := base)  (by assumption)
    have M2 := mak2 (CI := CI) NN J.cC mk1 mk2 (body_cinit (P := P) (w := w) (base := base) T J g7 g4 g8)
    have g12 := ok_klist (P := P) (w := w) (base := base)  (by assumption) (by assumption) (by assumption)
    have g13 := ok_rem (P := P) (w := w) (base := base)  (by assumption)
    have g14 := ok_croles (P := P) (w := w) (base := base)  (by assumption) (by assumption) (by assumption)
    have g15 := ok_cvo (P := P) (w := w) (base := base)  (by assumption) (by assumption) (by assumption)
    have g16 := ok_csi (P := P) (w := w) (base := base)  (by assumption) (by assumption) (by assumption)
    have g17 := ok_cne (P := P) (w := w) (base := base)  (by assumption) (by assumption) (by assumption)
    have g18 := ok_cuse (P := P) (w := w) (base := base)  (by assumption) (by assumption) (by assumption) (by assumption) (by assumption)
    have g19 := ok_cacc (P := P) (w := w) (base := base)  (by assumption) (by assumption) (by assumption) (by assumption)
    have g20 := ok_cused (P := P) (w := w) (base := base)  (by assumption) (by assumption) (by assumption) (by assumption)
    have g21 := ok_ceq (P := P) (w := w) (base := base)  (by assumption) (by assumption) (by assumption)
    have g22 := ok_ctakes (P := P) (w := w) (base := base)  (by assumption) (by assumption) (by assumption)
    have g23 := ok_wo (P := P) (w := w) (base := base)  (by assumption) (by assumption) (by assumption) (by assumption) (by assumption) (by assumption) (by assumption)
    have gWI : Met P w K mg base (L2.CX P w) 9 C "without" (spWoI K C CK) := by unfold spWoI; exact g23
    have bc := body_chg (P := P) (w := w) (base := base) T J g18 M2
    have br := body_rvd (P := P) (w := w) (base := base) T J M2
    have MCa := metCa MC bc
    have MCu := metCu MC bc
    have MC0 := metC0 MC bc
    have MC2 := metC2 MC bc
    have MRv := metRv MR br
    have MRn := metRn MR br
    have MRs := metRs MR br
    have MR0 := metR0 MR br
    have MRvn := metRvn MR br
    have MRns := metRns MR br
    have g37 := ok_stream (P := P) (w := w) (base := base)  (by assumption) (by assumption)
    have g38 := ok_draw (P := P) (w := w) (base := base)  (by assumption)
    have g39 := ok_choose (P := P) (w := w) (base := base)  (by assumption) (by assumption) (by assumption)
    have g40 := ok_words (P := P) (w := w) (base := base)  (by assumption) (by assumption) (by assumption) (by assumption)
    have gdr := drI g38
    have gch := chI g39
    have g43 := ok_some (P := P) (w := w) (base := base)  (by assumption) (by assumption)
    have g44 := ok_told (P := P) (w := w) (base := base)  (by assumption) (by assumption) (by assumption) (by assumption)
    have gtI : Cal P w K mg base CX0 3 "_law_told" (spToldI K) := by unfold spToldI; exact g44
    have g46 := ok_turned (P := P) (w := w) (base := base)  (by assumption)
    have g47 := ok_next (P := P) (w := w) (base := base)  (by assumption) (by assumption) (by assumption) (by assumption) (by assumption) (by assumption)
    have g48 := ok_tolds (P := P) (w := w) (base := base)  (by assumption) (by assumption) (by assumption) (by assumption) (by assumption)
    have g49 := ok_con (P := P) (w := w) (base := base)  (by assumption) (by assumption) (by assumption) (by assumption)
    have g50 := ok_vou (P := P) (w := w) (base := base)  (by assumption) (by assumption)
    have g51 := ok_with (P := P) (w := w) (base := base)  (by assumption)
    have g52 := ok_less (P := P) (w := w) (base := base)  (by assumption)
    have g53 := ok_seen (P := P) (w := w) (base := base)  (by assumption) (by assumption) (by assumption) (by assumption) (by assumption) (by assumption) (by assumption) (by assumption) (by assumption)
    have g54 := ok_key (P := P) (w := w) (base := base)  (by assumption) (by assumption)
    have g55 := ok_cri (P := P) (w := w) (base := base)  (by assumption) (by assumption) (by assumption) (by assumption) (by assumption) (by assumption) (by assumption) (by assumption) (by assumption) (by assumption) (by assumption) (by assumption) (by assumption) (by assumption) (by assumption) (by assumption) (by assumption) (by assumption) (by assumption)
    have g56 := ok_rfr (P := P) (w := w) (base := base)  (by assumption) (by assumption) (by assumption) (by assumption) (by assumption) (by assumption) (by assumption) (by assumption) (by assumption) (by assumption) (by assumption) (by assumption) (by assumption) (by assumption) (by assumption)
    exact fnG_of F sc_law (fun vs H Q E h => by obtain ⟨a, ns, rfl, _⟩ := h; rfl) fun cdv A outer s H vs Q E g hr h =>
      let ⟨t, a, q⟩ := body_law (by assumption) (by assumption) (by assumption) (by assumption) (by assumption) (by assumption) (by assumption) (by assumption) (by assumption) (by assumption) (by assumption) (by assumption) (by assumption) (by assumption) (by assumption) fa cdv A outer s H vs Q E (guards_deeper g) hr h
      ⟨t, a.nox, q⟩
theorem walk {l : PySem.W.OpenLaw} {q : Program} {loose : List Str} {XP : (Str → Option Value) → Heap → Prop} {YP : World → Heap → Prop} {d : DefRec} {K : Params → PySem.W.Frag} {ts : List Addr} (hn : l.most = some 63) (hdf : d.params.defaults = [])
    (hY : ∀ (w : World) (h : Heap), YP w h → (K w.params).In h) (hTs : ∀ (w : World) (h : Heap), YP w h → ∀ T ∈ ts, h.get? T = some (PySem.W.tabObj #[]))
    (F : ∀ (w : World) (mg : Str → Option Value) (fa : Addr) (h : Heap), (K w.params).In h → h.Ns mainGlobals mg → mg d.name = some (.ref fa) → XP mg h →
      ∃ (c T : Addr) (fd : FuncData) (sp : Sp), T ∈ ts ∧ PySem.W.codeHdIn (K w.params) c T = true ∧ (K w.params).lookup T = none ∧ (∀ (s : Shared) (u : Value), BindsTo s fd ⟨[u], []⟩ [("script", u)]) ∧
        (∀ (H : Hp) (a : Addr) (ns : List Int), ns.length ≤ 63 → H T = some (.tbl #[]) → SqL (K w.params) H a (ns.map V.int) → sp [.ref a] H (fun v _ => v = .bl true) fun _ _ _ => False) ∧
        ∀ base : Heap, (K w.params).In base → base.Ns mainGlobals mg → LamX.TabB base mg c T → FnG l.prog w (K w.params) mg base CX0 13 fa fd ["script"] sp) :
    PySem.W.WalkO q loose XP YP l.row.toRowW d [] (fun f vs => PySem.call f vs) :=
  walk_ofTG (n := 63) (k := 13) (x := "script") (CX := fun _ => CX0) hn (by decide) hdf ⟨rfl, by decide, by decide⟩ hY hTs F fun _ _ _ _ _ z => z
end K08
open PySem PySem.W PyProof.Rows
local macro_rules | `(tactic| walk_at "dk") => `(tactic| (refine' Jg.DefK.of (by assumption) (by assumption) ?a ?l ?c ?k; (case a => k_is); (case l => k_is); (case c => k_is); (case k => k_is)))
local macro_rules | `(tactic| walk_at "mk") => `(tactic| (refine' Jg.MetK.of ?a ?i ?l ?c ?k; (case a => k_is); (case i => k_is); (case l => k_is); (case c => k_is); (case k => k_is)))
local macro_rules | `(tactic| walk_at "pk") => `(tactic| (refine' Jg.PrpK.of ?a ?g ?tk ?rc ?l ?c ?k; (case a => k_is); (case g => k_is); (case tk => k_is); (case rc => k_is); (case l => k_is); (case c => k_is); (case k => k_is)))
local macro_rules | `(tactic| walk_at "ck") => `(tactic| (refine' Jg.CmtK.of ?rd ?ga ?a ?rc ?fi ?l ?c ?k; (case rd => k_is); (case ga => k_is); (case a => k_is); (case rc => k_is); (case fi => k_is); (case l => k_is); (case c => k_is); (case k => k_is)))
set_option maxRecDepth 100000 in
set_option maxHeartbeats 0 in
theorem PySem.Challenge.cw_gaplesskeys_k08_contents_taken_and_chang_holds : PySem.Challenge.rw_gaplesskeys_k08_contents_taken_and_chang.Holds := by
  w_on; o_law; k_head; (case hw => w_witness2)
  k_fill
  refine K08.walk (l := PySem.Challenge.rw_gaplesskeys_k08_contents_taken_and_chang) rfl rfl (fun w h Y => PySem.W.km_in_of Y) (fun w h Y => PySem.W.km_tabs_of Y) ?F
  case F =>
    intro w mg fa h KX G hmg XP
    refine' K08.fin hmg ?hm ?ht ?nT ?DL ?T ?J ?W8 ?W9 ?mk1 ?mk2 ?I ?U ?XV ?NN ?MC ?MR ?d1 ?d2 ?d3 ?d4 ?d5 ?d6 ?d7 ?d8 ?d9 ?d10 ?d11 ?d12 ?d13 ?d14 ?d15 ?d16 ?d17 ?d18 ?d19 ?d20 ?d21 ?d22 ?d23 ?d24 ?d25 ?d26 ?d27 ?d28 ?d29 ?d30 ?d31 ?d32 ?d33 ?d34 ?d35 ?d36 ?d37
    case DL =>
      refine' Jg.DefC.of KX G ?LLa ?LLl ?LLc ?LLk
      (case LLa => k_is); (case LLl => k_is); (case LLc => k_is); (case LLk => k_is)
    (case hm => exact List.Mem.head _)
    (case ht => kernel_rfl)
    (case nT => kernel_rfl)
    case T =>
      refine' K08.Txt.of KX G ?Tb_isinstance ?Tb_int ?Tb_bool ?Tb_str ?Tb_list ?Tb_tuple ?Tb_dict ?Tb_len ?Tb_all ?Tb_any ?Tb_set ?Tb_sorted ?Tb_max ?Tb_min ?Tb_range ?Tb_repr ?Tb_sum ?Tg_MOST_ROLES ?Tg_MOST_ACCEPTED ?Tg_MOST_VOUCHERS ?Tg_MOST_NEEDED
      (case Tg_MOST_ROLES => k_is)
      (case Tg_MOST_ACCEPTED => k_is)
      (case Tg_MOST_VOUCHERS => k_is)
      (case Tg_MOST_NEEDED => k_is)
      all_goals (first | k_is | kit_is | rfl)
    case J =>
      refine' K08.CTx.of KX G ?Jcl1 ?Jcl2 ?Jcl3 ?Jcl4 ?JcC ?Jcls_ ?Jcgt ?Jctk ?Jmro ?Jne ?JkCC ?JkN ?JkI ?JkS ?JkL ?JkT ?JkD ?JoCC ?JoN ?JoI ?JoS ?JoL ?JoT ?JoD ?Jnu ?Jnv ?Jnn ?Jns
      (case JcC => k_is)
      all_goals (first | k_is | kit_is | rfl)
    case W8 =>
      refine' K08.TstL.of KX G ?W8b_zip
      all_goals (first | k_is | kit_is | rfl)
    (case mk1 => k_is); (case mk2 => k_is)
    case I =>
      refine' K08.ExnQ.of KX G PySem.F.excBase_ValueError PySem.F.store_ValueError ?XIaI ?XIxI ?XIxO ?XIsa ?XIexC ?XItyC ?XIkC ?XIga ?XIgg ?XIhdC ?XIha ?XIhn ?XIht ?XIhm ?XIno ?XIiI ?XItI ?XIl ?XIc ?XIk ?XIsC
      (case XIaI => k_is); (case XIxI => first | decide +kernel | rfl); (case XIxO => first | decide +kernel | rfl); (case XIsa => k_is); (case XIexC => k_is); (case XItyC => k_is); (case XIkC => k_is); (case XIga => k_is); (case XIgg => k_is); (case XIhdC => k_is); (case XIha => k_is); (case XIhn => k_is); (case XIht => k_is); (case XIhm => k_is)
      (case XIno => k_is); (case XIiI => k_is); (case XItI => k_is); (case XIl => k_is); (case XIc => k_is); (case XIk => k_is); (case XIsC => first | rfl | k_is)
    case U =>
      refine' K08.ExnQ.of KX G PySem.F.excBase_LookupError PySem.F.store_LookupError ?XUaI ?XUxI ?XUxO ?XUsa ?XUexC ?XUtyC ?XUkC ?XUga ?XUgg ?XUhdC ?XUha ?XUhn ?XUht ?XUhm ?XUno ?XUiI ?XUtI ?XUl ?XUc ?XUk ?XUsC
      (case XUaI => k_is); (case XUxI => first | decide +kernel | rfl); (case XUxO => first | decide +kernel | rfl); (case XUsa => k_is); (case XUexC => k_is); (case XUtyC => k_is); (case XUkC => k_is); (case XUga => k_is); (case XUgg => k_is); (case XUhdC => k_is); (case XUha => k_is); (case XUhn => k_is); (case XUht => k_is); (case XUhm => k_is)
      (case XUno => k_is); (case XUiI => k_is); (case XUtI => k_is); (case XUl => k_is); (case XUc => k_is); (case XUk => k_is); (case XUsC => first | rfl | k_is)
    case XV =>
      refine' K08.ExnQ.of KX G PySem.F.excBase_ValueError PySem.F.store_ValueError ?XXVaI ?XXVxI ?XXVxO ?XXVsa ?XXVexC ?XXVtyC ?XXVkC ?XXVga ?XXVgg ?XXVhdC ?XXVha ?XXVhn ?XXVht ?XXVhm ?XXVno ?XXViI ?XXVtI ?XXVl ?XXVc ?XXVk ?XXVsC
      (case XXVaI => k_is); (case XXVxI => first | decide +kernel | rfl); (case XXVxO => first | decide +kernel | rfl); (case XXVsa => k_is); (case XXVexC => k_is); (case XXVtyC => k_is); (case XXVkC => k_is); (case XXVga => k_is); (case XXVgg => k_is); (case XXVhdC => k_is); (case XXVha => k_is); (case XXVhn => k_is); (case XXVht => k_is); (case XXVhm => k_is)
      (case XXVno => k_is); (case XXViI => k_is); (case XXVtI => k_is); (case XXVl => k_is); (case XXVc => k_is); (case XXVk => k_is); (case XXVsC => first | rfl | k_is)
    case NN =>
      refine' K08.Ini_NN ?NNNa ?NNNi ?NNNl ?NNNc ?NNNk ?NNNd0 ?NNNd1
      (case NNNa => k_is); (case NNNi => k_is); (case NNNl => k_is); (case NNNc => k_is); (case NNNk => k_is); (case NNNd0 => k_is); (case NNNd1 => k_is)
    case MC =>
      refine' K08.Mth_MC ?NMCa ?NMCi ?NMCl ?NMCc ?NMCk ?NMCd0 ?NMCd1
      (case NMCa => k_is); (case NMCi => k_is); (case NMCl => k_is); (case NMCc => k_is); (case NMCk => k_is); (case NMCd0 => k_is); (case NMCd1 => k_is)
    case MR =>
      refine' K08.Mth_MR ?NMRa ?NMRi ?NMRl ?NMRc ?NMRk ?NMRd0 ?NMRd1 ?NMRd2
      (case NMRa => k_is); (case NMRi => k_is); (case NMRl => k_is); (case NMRc => k_is); (case NMRk => k_is); (case NMRd0 => k_is); (case NMRd1 => k_is); (case NMRd2 => k_is)
    case W9 =>
      refine' K08.TstF.of KX G ?W9gG ?W9xIU ?W9xKU ?W9xKI ?W9kKG
      (case W9gG => k_is)
      all_goals (first | k_is | kit_is | rfl)
    (case d1 => walk_at "dk")
    (case d2 => walk_at "dk")
    (case d3 => walk_at "dk")
    (case d4 => walk_at "dk")
    (case d5 => walk_at "dk")
    (case d6 => walk_at "dk")
    (case d7 => walk_at "dk")
    (case d8 => walk_at "dk")
    (case d9 => walk_at "dk")
    (case d10 => walk_at "pk")
    (case d11 => walk_at "pk")
    (case d12 => walk_at "pk")
    (case d13 => walk_at "pk")
    (case d14 => walk_at "mk")
    (case d15 => walk_at "mk")
    (case d16 => walk_at "mk")
    (case d17 => walk_at "mk")
    (case d18 => walk_at "mk")
    (case d19 => walk_at "mk")
    (case d20 => walk_at "dk")
    (case d21 => walk_at "dk")
    (case d22 => walk_at "dk")
    (case d23 => walk_at "dk")
    (case d24 => walk_at "dk")
    (case d25 => walk_at "dk")
    (case d26 => walk_at "dk")
    (case d27 => walk_at "dk")
    (case d28 => walk_at "dk")
    (case d29 => walk_at "dk")
    (case d30 => walk_at "dk")
    (case d31 => walk_at "dk")
    (case d32 => walk_at "dk")
    (case d33 => walk_at "dk")
    (case d34 => walk_at "dk")
    (case d35 => walk_at "dk")
    (case d36 => walk_at "dk")
    (case d37 => walk_at "dk")
#print axioms PySem.Challenge.cw_gaplesskeys_k08_contents_taken_and_chang_holds
