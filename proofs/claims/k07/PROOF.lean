import PyProof.Rows.All
import Wide.All
import OpenK.AllK
import Wide.FinOn
import HandS.ForMost
import HandS.IsInst
import HandS.ClsMeth
import HandS.Property
import HandS.Strs
import HandS.Wide
import PyProof.LongRange
import HandS.Exc
import PyProof.Rows.NestShow
import HandS.SetFor
import HandS.ExcInit
import HandS.ExcField
import HandS.ExcOwn
import HandS.WordsExc
import KE.KExcIs
import HandS.Small
import PyProof.Rows.Range3
import KE.KExcInit
import HandS.MakeKwOnly
import PyProof.ExcBaseAll.LookupError
import PyProof.ExcBaseAll.ValueError
import PyProof.ExcBaseAll.OverflowError
import PyProof.ExcBaseAll.RuntimeError
import PyProof.InstEq
import PyProof.EqKinds
import KE.KEqDict
import PyProof.CallStr
import HandS.More
import HandS.Replace
import HandS.Text
import PyProof.ListStr
import PyProof.StrOps2
import HandS.Comp
import PyProof.Rows.SortStr
import PyProof.Rows.StrMeet
import HandS.List
import HandS.Dict
import HandS.DictEq
import PyProof.SumAny
import KE.SortData
import PyProof.ReprRoads
import HandS.Style
import PyProof.ReprBulk
import HandS.NoneIn
import HandS.Iter
import HandS.Walk
import HandS.WordsDict
import HandS.ExcIs
import HandS.Codes
import HandS.Finally
import HandS.Conv
import HandS.DeepEq
import HandS.FStr
import HandS.StrSplit
import HandS.Steps
import HandS.StrMore
import KE.RegKIsAll
import PySem.Challenge.RW_gaplesskeys_k07_wrong_contents
set_option Elab.async false
set_option linter.all false
set_option maxRecDepth 100000
set_option maxHeartbeats 4000000
/-! own rules: own operators, long ranges, a class held by a local name, a classmethod without arguments -/
namespace Jg
open PySem PySem.Spec PyProof.Rows L2

section
variable {X : Cx} {CX : CXT} {n k : Nat} {C f : Addr} {fd : FuncData} {ps : List Str} {sp : Sp} {E : XK} {dvs : List V} {ds : List Value}
/-- what an own method must be to serve an operator -/
structure Own (K : PySem.W.Frag) (C : Addr) (m : Str) (f : Addr) : Prop where
  at_ : PySem.W.findIn K (.ref C) m = some (some (.ref f))
  fn : PySem.W.isFn K (.ref f) = true
theorem back_of {pins : List (Addr × Obj)} {σ : L2.St} {Q : VK} {v : Value} {s : Shared} (h : EP X pins σ Q v s) : PySem.W.CmpBack (EP X pins σ Q) v s := by
  obtain ⟨x, H', I, r, q⟩ := h
  cases v <;> first
    | exact ⟨x, H', I, r, q⟩
    | (exfalso; cases x <;> simp [L2.RelV] at r)
/-- x == y, x < y .. by the own method of x -/
def rOwn (K : PySem.W.Frag) (C : Addr) (sp : Sp) (E : XK) : R2 := fun x y H Q => ∃ a dx fs t, x = .ref a ∧ H a = some (.ins C dx fs) ∧ TyX K H y t ∧ PySem.W.notFirst K C t = true ∧ sp [.ref a, y] H Q E
theorem op_own {op : CmpOp} (F : FnOk X.prog X.w X.K X.mg X.base CX n f fd ps sp) (hr : Room n X.A) (o : Own X.K C (cmpInfo op).2.1 f) (hb : Binds X.K fd ps []) (hx : Passes CX X E)
    (hc : ∀ v u, compareOp op v u = richCompare op v u := by intro _ _; rfl) : OpR X (compareOp op) (rOwn X.K C sp E) := by
  intro pins s σ H x y v u Q I rx ry h
  obtain ⟨a, dx, fs, t, rfl, ha, ty, nf, q⟩ := h
  cases rx
  obtain ⟨mA, J, _⟩ := ins_get I.hok ha
  obtain ⟨od, J, _⟩ := J.look
  obtain ⟨m, hF⟩ := I.fr
  obtain ⟨P, Z, p, _⟩ := kit_of I ry ty
  rw [hc]
  refine PySem.W.cmp_K (op := op) (tb := t) hr.units0 hF I.ok.mod.kin J (Z.ty _ _ I.kIn p) nf o.at_ o.fn ?_
  exact wpAny_mono (run_fn (us := [.ref a, u]) (vs := [.ref a, y]) F hr hb .nil hx I (.cons rfl (.cons ry .nil)) q) (fun _ _ z => back_of z) fun _ _ z => z
/-- x & y, x + y .. of two instances of the class -/
def rOwnB (C : Addr) (sp : Sp) (E : XK) : R2 := fun x y H Q => ∃ a b dx fs dy gs, x = .ref a ∧ y = .ref b ∧ H a = some (.ins C dx fs) ∧ H b = some (.ins C dy gs) ∧ sp [.ref a, .ref b] H Q E
theorem op_ownB {op : Operator} (F : FnOk X.prog X.w X.K X.mg X.base CX n f fd ps sp) (hr : Room n X.A) (o : Own X.K C (PySem.dunder op.info.2) f) (hc : PySem.W.selfFirst X.K C = true) (hb : Binds X.K fd ps []) (hx : Passes CX X E) :
    OpR X (binaryOp op) (rOwnB C sp E) := by
  intro pins s σ H x y v u Q I rx ry h
  obtain ⟨a, b, dx, fs, dy, gs, rfl, rfl, ha, hb', q⟩ := h
  cases rx
  cases ry
  obtain ⟨mA, J, _⟩ := ins_get I.hok ha
  obtain ⟨od, J, _⟩ := J.look
  obtain ⟨mB, J', _⟩ := ins_get I.hok hb'
  obtain ⟨od', J', _⟩ := J'.look
  obtain ⟨m, hF⟩ := I.fr
  refine PySem.W.binop_K (op := op) hF I.ok.mod.kin J J'.type hc o.at_ o.fn ?_
  exact wpAny_mono (run_fn (us := [.ref a, .ref b]) (vs := [.ref a, .ref b]) F hr hb .nil hx I (.cons rfl (.cons rfl .nil)) q) (fun _ _ z => back_of z) fun _ _ z => z
/-- y in x by the own method of x -/
def rOwnIn (C : Addr) (sp : Sp) (E : XK) : R2 := fun y x H Q => ∃ a dx fs, x = .ref a ∧ H a = some (.ins C dx fs) ∧ sp [.ref a, y] H (fun v H' => ∃ b, v = .bl b ∧ Q (.bl b) H') E
def rOwnNotIn (C : Addr) (sp : Sp) (E : XK) : R2 := fun y x H Q => ∃ a dx fs, x = .ref a ∧ H a = some (.ins C dx fs) ∧ sp [.ref a, y] H (fun v H' => ∃ b, v = .bl b ∧ Q (.bl (!b)) H') E
theorem op_ownIn (F : FnOk X.prog X.w X.K X.mg X.base CX n f fd ps sp) (hr : Room n X.A) (o : Own X.K C "__contains__" f) (hb : Binds X.K fd ps []) (hx : Passes CX X E) :
    OpR X (compareOp .In) (rOwnIn C sp E) := by
  intro pins s σ H y x u v Q I ry rx h
  obtain ⟨a, dx, fs, rfl, ha, q⟩ := h
  cases rx
  obtain ⟨mA, J, _⟩ := ins_get I.hok ha
  obtain ⟨od, J, _⟩ := J.look
  obtain ⟨m, hF⟩ := I.fr
  refine PySem.W.in_K hF I.ok.mod.kin J o.at_ o.fn ?_
  refine wpAny_mono (run_fn (us := [.ref a, u]) (vs := [.ref a, y]) F hr hb .nil hx I (.cons rfl (.cons ry .nil)) q) (fun r s' z => ?_) fun _ _ z => z
  obtain ⟨w', H', I', rw', b, rfl, q'⟩ := z
  cases (show r = Value.bool b from rw')
  exact wpAny_truthy_bool ⟨.bl _, H', I', rfl, q'⟩
theorem op_ownNotIn (F : FnOk X.prog X.w X.K X.mg X.base CX n f fd ps sp) (hr : Room n X.A) (o : Own X.K C "__contains__" f) (hb : Binds X.K fd ps []) (hx : Passes CX X E) :
    OpR X (compareOp .NotIn) (rOwnNotIn C sp E) := by
  intro pins s σ H y x u v Q I ry rx h
  obtain ⟨a, dx, fs, rfl, ha, q⟩ := h
  cases rx
  obtain ⟨mA, J, _⟩ := ins_get I.hok ha
  obtain ⟨od, J, _⟩ := J.look
  obtain ⟨m, hF⟩ := I.fr
  refine PySem.W.notIn_K hF I.ok.mod.kin J o.at_ o.fn ?_
  refine wpAny_mono (run_fn (us := [.ref a, u]) (vs := [.ref a, y]) F hr hb .nil hx I (.cons rfl (.cons ry .nil)) q) (fun r s' z => ?_) fun _ _ z => z
  obtain ⟨w', H', I', rw', b, rfl, q'⟩ := z
  cases (show r = Value.bool b from rw')
  exact wpAny_truthy_bool ⟨.bl _, H', I', rfl, q'⟩
end

/-! ### cls(e, ..), cls a local name that holds the class -/
def tMakeL (i : Nat) (C : Addr) (sp : Sp) (dvs : List V) (E : XK) (t : TA) : TE := fun σ H Q => σ[i]? = some (some (.ref C)) ∧ tMake C sp dvs E t σ H Q
section
variable {X : Cx} {CX : CXT} {k i : Nat} {C f : Addr} {fd : FuncData} {ps : List Str} {sp : Sp} {dvs : List V} {ds : List Value} {E : XK} {x : Str} {p pos : Pos} {e : Expr} {es : List Expr} {t : TA}
theorem pe_makeL (M : Mk X.K C f) (F : FnOk X.prog X.w X.K X.mg X.base CX k f fd ps sp) (hr : Room (k + 1) X.A) (hN : X.N[i]? = some x) (hv : Vis X.env.scope x) (hb : Binds X.K fd ps ds) (hd : Vals dvs ds) (hx : Passes CX X E) (ha : PA X (e :: es) t)
    (hdb : (x == ("__debug__" : Str)) = false := by decide) (hcd : (x == ("__classdict__" : Str)) = false := by decide)
    (he : starEach (e :: es) X.env = (false, eval e X.env) :: starEach es X.env := by rfl) (hpl : (backTo pos (starEach es X.env)).any (·.1) = false := by rfl) : PE X (.Call (.Name x p) (e :: es) [] pos) (tMakeL i C sp dvs E t) := by
  refine ⟨fun pins s σ H Q I h => ?_⟩
  obtain ⟨hs, ht⟩ := h
  refine wpAny_Call_Name_kw (thn ((pe_var (pos := p) hN hv hdb hcd).run pins s σ H (fun v H1 => v = .ref C ∧ H1 = H) I ⟨.ref C, hs, rfl, rfl⟩) fun u s1 ⟨v, H1, I1, r1, q1⟩ => ?_)
  obtain ⟨rfl, rfl⟩ := q1
  cases r1
  refine PySem.W.callWith_K (h₀ := X.base) I.ok.mod.kin M.kp (thn (ha.run pos pins s1 σ _ _ I1 ht) fun us s2 ⟨vs, H2, I2, r, q⟩ => ⟨I2.kIn, ?_⟩) he hpl
  exact run_make M F hr hb hd hx I2 r q
end

/-! ### C.m() , m a classmethod, no argument -/
section
open ClX
variable {X : Cx} {CX : CXT} {k : Nat} {C p g : Addr} {mc : Value} {sp : Sp} {E : XK} {o : Expr} {m : Str} {pos apos : Pos} {ta : TE} {pl : Sem Bool}
theorem pe_cmeth0 (he : PE X o ta) (r : CRead X.K C mc) (c : CMet X.K C mc m p g) (F : FnR X.prog X.w X.K X.mg X.base CX k g sp) (hr : Room k X.A) (hx : Passes CX X E)
    (ht : eval (.Call (.Attribute o m apos) [] [] pos) X.env = (do
      let ov ← eval o X.env
      standAt apos.atName
      let (f, first) ← holding [ov] (getMethod ov m pl)
      callWith pos f first (backTo pos (starEach [] X.env)) (backToKw pos (keywordEach [] X.env))) := by rfl) :
    PE X (.Call (.Attribute o m apos) [] [] pos) (tCMeth C sp E ta tNil) := by
  refine ⟨fun pins s σ H Q I h => ?_⟩
  refine PySem.W.methodCall_KW (pl := pl) (thn (he.run pins s σ H _ I h) fun u s1 ⟨x, H1, I1, rx, ex, q⟩ => ?_) ht
  subst ex
  obtain rfl : u = Value.ref C := rx
  refine getmethcm_ok I1 r c fun s2 I2 => ?_
  refine PySem.W.callWith_M0 (K := X.K) (first := []) ⟨pin_at I2, I2.kIn⟩ c.fi ?_
  exact run_cm F hr hx I2 .nil q
end

/-! ### range(a, b) of any size -/
theorem turn_long {P : Program} {w : World} {K : PySem.W.Frag} {tg : Expr} (it : Addr) (lo : Int) (n : Nat) : Turn P w K tg (Itr lo n) [it] it (fun i h => IsLongIter h it (lo + (i : Nat) * 1) ((n : Int) - (i : Nat)) 1) where
  mem := by simp
  obj := fun i h st b hb => by
    have e : b = it := by simpa using hb
    subst e
    exact ⟨_, st, fun v z => by
      have z' : Data.fields _ = Data.cell v := z
      cases z'⟩
  keep := fun i h h' st k => k it (by simp) _ st
  item := by
    intro X hP hw hK hc i pins s σ H E I hf st hg
    subst hP hw hK
    obtain ⟨f0, f1, f2, f3, f4, f5⟩ := hf it (by simp)
    have W := Walks.longrange (prog := X.prog) (w := X.w) (I.ok.hd hc) it lo 1 n
    refine W.item i s _ _ hg st fun v h' tk hv st' kk => ?_
    obtain ⟨t, rfl⟩ := hv
    have I1 : Inv X pins σ H { s with heap := h', toks := tk } := I.turned (fun b o hb e => kk b o (by simpa using hb) e) f0 f1 f3 f4 f5
    refine ⟨_, rfl, go_of (s := { s with heap := h', toks := tk }) (n := "longrange_iterator") st' rfl rfl (by decide) ⟨.int (lo + i), H, I1, ⟨t, ?_⟩, ⟨rfl, rfl⟩, st', fun b hb => (hf b hb).1⟩⟩
    rw [Int.mul_one]
  done := by
    intro X hP hw hK hc i pins s σ H E I hf st hg
    subst hP hw hK
    obtain ⟨f0, f1, f2, f3, f4, f5⟩ := hf it (by simp)
    exact wpAny_pyNext_long_end (I.ok.hd hc) st (by have : n ≤ i := hg; omega) fun h' eb => ⟨rfl, I.turned (t' := s.toks) (fun b o hb e => eb b o hb e) f0 f1 f3 f4 f5⟩
  self := fun _ _ _ _ _ st h => wpAny_pyIter_longiter st h
section
variable {X : Cx} {tg : Expr}
theorem rsize_nat (lo hi : Int) : (((hi - lo).toNat : Nat) : Int) = Builtin.Range.rangeSize lo hi 1 := by
  rw [rangeSize_one]; split <;> omega
theorem rangeW_it {pins : List (Addr × Obj)} {σ : L2.St} {H : Hp} {s : Shared} {R : It → Hp → Prop} {E : Value → Shared → Prop} {lo hi : Int} {t u v : Tok} {tk : Nat} (I : Inv X pins σ H s)
    (q : R (Itr lo (hi - lo).toNat) H) : wpAny (model X.prog X.w) X.A (pyIter (.ref s.heap.objs.size)) (PIE X pins σ tg R) E { s with heap := s.heap.push { cls := .type "range", data := .fields #[.int lo t, .int hi u, .int 1 v] }, toks := tk } := by
  have I1 : Inv X pins σ H { s with heap := s.heap.push { cls := .type "range", data := .fields #[.int lo t, .int hi u, .int 1 v] }, toks := tk } := I.kept fun b o e => Heap.get?_push_of_some _ e
  cases hs : Builtin.Range.small lo hi 1 with
  | true =>
    refine wpAny_pyIter_range (IsRange.new ..) hs ?_
    refine ⟨(s.heap.push { cls := .type "range", data := .fields #[.int lo t, .int hi u, .int 1 v] }).objs.size, [(s.heap.push { cls := .type "range", data := .fields #[.int lo t, .int hi u, .int 1 v] }).objs.size], _, _, H, rfl,
      I1.kept (t' := tk) fun b o e => Heap.get?_push_of_some _ e, turn_range _ lo (hi - lo).toNat, ?_, fun b hb => ?_, q⟩
    · have e1 : lo + ((0 : Nat) : Int) * 1 = lo := by simp
      have e2 : (((hi - lo).toNat : Nat) : Int) - ((0 : Nat) : Int) = Builtin.Range.rangeSize lo hi 1 := by rw [rsize_nat]; simp
      show IsRangeIter _ _ (lo + ((0 : Nat) : Int) * 1) ((((hi - lo).toNat : Nat) : Int) - ((0 : Nat) : Int)) 1
      rw [e1, e2]
      exact Heap.get?_push_size _ rfl
    · have e : b = (s.heap.push { cls := .type "range", data := .fields #[.int lo t, .int hi u, .int 1 v] }).objs.size := by simpa using hb
      subst e
      exact I1.fpOk (Nat.le_refl _) (I1.hok.fresh (Nat.le_refl _))
  | false =>
    refine wpAny_pyIter_longrange (IsRange.new ..) hs ?_
    refine ⟨(s.heap.push { cls := .type "range", data := .fields #[.int lo t, .int hi u, .int 1 v] }).objs.size, [(s.heap.push { cls := .type "range", data := .fields #[.int lo t, .int hi u, .int 1 v] }).objs.size], _, _, H, rfl,
      I1.kept (t' := tk) fun b o e => Heap.get?_push_of_some _ e, turn_long _ lo (hi - lo).toNat, ?_, fun b hb => ?_, q⟩
    · have e1 : lo + ((0 : Nat) : Int) * 1 = lo := by simp
      have e2 : (((hi - lo).toNat : Nat) : Int) - ((0 : Nat) : Int) = Builtin.Range.rangeSize lo hi 1 := by rw [rsize_nat]; simp
      show IsLongIter _ _ (lo + ((0 : Nat) : Int) * 1) ((((hi - lo).toNat : Nat) : Int) - ((0 : Nat) : Int)) 1
      rw [e1, e2]
      exact Heap.get?_push_size _ rfl
    · have e : b = (s.heap.push { cls := .type "range", data := .fields #[.int lo t, .int hi u, .int 1 v] }).objs.size := by simpa using hb
      subst e
      exact I1.fpOk (Nat.le_refl _) (I1.hok.fresh (Nat.le_refl _))
def iRng2W (ta : TA) : TI := fun σ H R => ta σ H fun vs H1 => ∃ i j : Int, vs = [.int i, .int j] ∧ R (Itr i (j - i).toNat) H1
theorem pi_range2W {a b : Expr} {ta : TA} {p pos : Pos} (hg : Gl X "range") (hm : X.mg "range" = none) (ha : PA X [a, b] ta) (hs : starEach [a, b] X.env = [(false, eval a X.env), (false, eval b X.env)] := by rfl) (hs2 : starEach [b] X.env = [(false, eval b X.env)] := by rfl) :
    PI X tg (.Call (.Name "range" p) [a, b] [] pos) (iRng2W ta) := by
  refine ⟨fun pins s σ H R I h => ?_⟩
  refine Call_ (ld_blt I hg hm boot_range (PyProof.Rows.callWith_type1 (thn (ha.run pos pins s σ H _ I h) fun us s1 ⟨vs, H1, I1, r1, q1⟩ => ?_) (by rw [hs, hs2]) (by rw [hs2]; rfl)))
  obtain ⟨i, j, e, q⟩ := q1
  subst e
  cases r1 with
  | cons r rr =>
    cases rr with
    | cons r' rr =>
      cases rr
      obtain ⟨t, rfl⟩ := r
      obtain ⟨t', rfl⟩ := r'
      exact call_range_2 (rangeW_it I1 q)
end
end Jg

/-! defs that are called where no repr is under way, repr of data, and the law's end over such a def -/
namespace Jg
open PySem PySem.Spec PyProof.Rows L2

/-- a def's promise where no repr is under way -/
structure FnG (P : Program) (w : World) (K : PySem.W.Frag) (mg : Str → Option Value) (base : Heap) (CX : CXT) (k : Nat) (f : Addr) (fd : FuncData) (ps : List Str) (sp : Sp) : Prop where
  len : ∀ vs H Q E, sp vs H Q E → vs.length = ps.length
  run : ∀ (A : Around), A.guards = some [] → ∀ (outer : List Env) (s : Shared) (H : Hp) (args : Args) (us : List Value) (vs : List V) (Q : VK) (E : XK), Room k A → Env0 P w K mg base A outer s H → BindsTo s fd args (ps.zip us) → Vals vs us → sp vs H Q E →
    codeAny (model P w) A (.call (.ref f) args) (CR CX outer P w H s Q E) s
theorem FnG.of {P : Program} {w : World} {K : PySem.W.Frag} {mg : Str → Option Value} {base : Heap} {CX : CXT} {k : Nat} {f : Addr} {fd : FuncData} {ps : List Str} {sp : Sp} (F : FnOk P w K mg base CX k f fd ps sp) : FnG P w K mg base CX k f fd ps sp :=
  ⟨F.len, fun A _ => F.run A⟩
theorem FnG.mono {P : Program} {w : World} {K : PySem.W.Frag} {mg : Str → Option Value} {base : Heap} {CX : CXT} {j k : Nat} {f : Addr} {fd : FuncData} {ps : List Str} {sp : Sp} (F : FnG P w K mg base CX j f fd ps sp) (h : j ≤ k) :
    FnG P w K mg base CX k f fd ps sp := ⟨F.len, fun A g outer s H args us vs Q E hr => F.run A g outer s H args us vs Q E (hr.mono h)⟩

section
variable {X : Cx} {CX : CXT} {k : Nat} {f : Addr} {fd : FuncData} {ps : List Str} {sp : Sp} {dvs : List V} {ds : List Value} {E : XK} {x : Str} {p pos : Pos} {e : Expr} {es : List Expr} {t : TA}
theorem run_fnG {pins : List (Addr × Obj)} {σ : L2.St} {H : Hp} {s : Shared} {Q : VK} {us : List Value} {vs : List V} (F : FnG X.prog X.w X.K X.mg X.base CX k f fd ps sp) (g : X.A.guards = some []) (hr : Room k X.A) (hb : Binds X.K fd ps ds) (hd : Vals dvs ds) (hx : Passes CX X E)
    (I : Inv X pins σ H s) (r : Vals vs us) (h : sp (vs ++ dvs) H Q E) : wpAny (model X.prog X.w) X.A (call (.ref f) us) (EP X pins σ Q) X.xe s := by
  have both := r.append hd
  have hl : (us ++ ds).length = ps.length := both.length.symm.trans (F.len _ _ _ _ h)
  have go := F.run X.A g X.stack s H ⟨us, []⟩ (us ++ ds) (vs ++ dvs) Q E hr I.env0 (hb s us I.kIn hl) both h
  refine wpAny_call (codeAny_mono go fun r s' hq => ?_)
  match r, hq with
  | .error e, hq => exact hx pins σ H s e s' I hq
  | .ok (.ret u), hq => exact I.after hq
/-- f(e, ..) -/
theorem pe_callG (F : FnG X.prog X.w X.K X.mg X.base CX k f fd ps sp) (g : X.A.guards = some []) (hr : Room k X.A) (hg : Gl X x) (hm : X.mg x = some (.ref f)) (hk : PySem.W.keepIn X.K (.ref f) = true) (hb : Binds X.K fd ps ds) (hd : Vals dvs ds) (hx : Passes CX X E)
    (ha : PA X (e :: es) t) (hdb : (x == ("__debug__" : Str)) = false := by decide) (he : starEach (e :: es) X.env = (false, eval e X.env) :: starEach es X.env := by rfl) (hpl : (backTo pos (starEach es X.env)).any (·.1) = false := by rfl) :
    PE X (.Call (.Name x p) (e :: es) [] pos) (tCall sp dvs E t) :=
  ⟨fun pins s σ H Q I h => wpAny_Call_Name_kw (ld_glob I hg hm (PySem.W.callWith_K (h₀ := X.base) I.ok.mod.kin hk (thn (ha.run pos pins s σ H _ I h) fun _ _ ⟨_, _, I1, r, q⟩ => ⟨I1.kIn, run_fnG F g hr hb hd hx I1 r q⟩) he hpl) hdb)⟩
end

theorem guards_deeper {A : Around} {e : Env} (h : A.guards = some []) : (A.deeper e).guards = some [] := by
  first | exact h | (unfold Around.deeper; simpa using h)

section
variable {P : Program} {w : World} {K : PySem.W.Frag} {mg : Str → Option Value} {base : Heap}
/-- a def of the text, its body walked where no repr is under way -/
theorem fnG_of {CX : CXT} {k : Nat} {x qual : Str} {st : Stmt} {f : Addr} {fd : FuncData} {N ps : List Str} {sp : Sp} (F : Fun K x qual st f fd) (S : FnScope N ps (defScope st)) (len : ∀ vs H Q E, sp vs H Q E → vs.length = ps.length)
    (hbody : ∀ (cdv : Value) (A : Around) (outer : List Env) (s : Shared) (H : Hp) (vs : List V) (Q : VK) (E : XK), A.guards = some [] → Room k (A.deeper (envOfC qual (defScope st) s.heap.objs.size f cdv)) → sp vs H Q E →
      ∃ t, PSs (cxOf CX P w K mg base N qual (defScope st) f cdv A outer s H E) (defBody st) t ∧ t { nx := fun _ H' => Q .non H', rt := Q } (start N vs) H) : FnG P w K mg base CX (k + 1) f fd ps sp := by
  obtain ⟨oc, od, kV, doc, pm, an, cdv, ct, osl, rfl, lk, hcd⟩ := F.ex
  refine ⟨len, fun A g outer s H args us vs Q E hr e0 hb r hsp => ?_⟩
  have inHeap : K.In s.heap := e0.mod.kin.keeps fun b o e => (e0.bs b o e).1
  have kinds : ∀ y ∈ ps.zip us, (defScope st).names.lookup y.1 = some .local ∨ ((defScope st).names.lookup y.1 = some .cell ∧ ((cellsFrom (s.heap.objs.size + 1) (defScope st).names []).lookup y.1).isSome = true) := fun y hy =>
    (S.par y.1 (List.of_mem_zip hy).1).imp id fun q => ⟨q, PySem.W.cellsFrom_some _ _ _ (.inl q)⟩
  refine codeAny_call_function hr.depth (inHeap _ _ lk) rfl S.co S.gen rfl (PySem.W.codeRec_of inHeap hcd) (hb _ _ _ _ ?_)
  refine wpAny_newFunctionEnv_cells S.kind kinds fun env he s1 y => ?_
  subst he
  obtain ⟨t, ht, hq⟩ := hbody cdv A outer s H vs Q E g (hr.deeper _) hsp
  have I := inv_start (CX := CX) (E := E) S hr.hd e0 (len _ _ _ _ hsp) r y
  refine ⟨(e0.mod.nolimit.keeps fun b o e => (e0.bs b o e).1).keeps y.toInCall.keep, codeAny_func (wpAny_mono (ht.run [] s1 (start N vs) H _ I hq) (fun fl s' hs => ?_) fun _ _ hs => hs)⟩
  match fl, hs with
  | .ret u, ⟨v, _, H', J, rv, q⟩ => exact ⟨v, H', J.os, J.bare, J.base, J.hok, rv, q⟩
  | .next, ⟨_, H', J, q⟩ => exact ⟨.non, H', J.os, J.bare, J.base, J.hok, rfl, q⟩
  | .brk, ⟨_, _, _, q⟩ => exact False.elim q
  | .cont, ⟨_, _, _, q⟩ => exact False.elim q
end

/-! ### repr of data -/
theorem noDict : ∀ (K : PySem.W.Frag) (H : Hp) (d : PyData) (v : V), Dp K H v d → d.hasDict = false := by
  intro K H d v h
  refine Dp.rec (motive_1 := fun _ d _ => d.hasDict = false) (motive_2 := fun _ ds _ => PyData.hasDictAll ds = false) ?_ ?_ ?_ ?_ ?_ ?_ ?_ ?_ h
  · rfl
  · intro b; rfl
  · intro i; rfl
  · intro x; rfl
  · intro a xs ds _ _ ih; exact ih
  · intro a xs ds _ _ ih; exact ih
  · rfl
  · intro v vs d ds _ _ h1 h2
    show (PyData.hasDict d || PyData.hasDictAll ds) = false
    rw [h1, h2]; rfl
def rRepr (K : PySem.W.Frag) : List V → Hp → VK → Prop := fun xs H Q => ∃ a d, xs = [.ref a] ∧ Dp K H (.ref a) d ∧ d.showable = true ∧ d.depth ≤ 40 ∧ d.shown.length ≤ sizeLine ∧ Q (.str d.shown) H
section
variable {X : Cx}
theorem call_reprD (g : X.A.guards = some []) (hu : X.A.units + 64 < cLine) : CallR X (.builtin "repr") (rRepr X.K) := by
  intro pins s σ H xs us Q I r h
  obtain ⟨a, d, rfl, hd, hs, dp, hz, q⟩ := h
  obtain ⟨u, rfl, ru⟩ := vals1 r
  cases ru
  obtain ⟨as, R⟩ := Dp.reads I d (.ref a) (.ref a) hd rfl
  refine repr_of_reads' R hs (PyData.noDict_hsm (noDict _ _ _ _ hd)) g (by omega) (fun _ _ e => e) (fun h' u tk hk => ?_) hz
  exact ⟨.str d.shown, H, I.kept hk, ⟨_, rfl⟩, q⟩
end

/-! ### the end -/
theorem law_callG {P : Program} {w : World} {K : PySem.W.Frag} {mg mb : Str → Option Value} {CX : CXT} {k : Nat} {fa a : Addr} {fd : FuncData} {x : Str} {sp : Sp} {s₁ : Shared} {vs : List Value} {ns : List Int}
    (KX : K.In s₁.heap) (hns : s₁.heap.Ns mainGlobals mg) (hb : s₁.heap.Ns builtinsNs mb) (hbb : ∀ x : Str, x ≠ "__name__" → mb x = bootBuiltins x) (hlim : s₁.heap.NoLimit) (hg : s₁.gens = #[])
    (ha : s₁.heap.get? a = some { cls := .type "list", data := .seq vs.toArray }) (hi : IntsAre vs ns) (hl : ns.length ≤ sizeLine) (hr : Room k callerA)
    (F : ∀ base : Heap, K.In base → base.Ns mainGlobals mg → FnG P w K mg base CX k fa fd [x] sp) (hbind : ∀ (s : Shared) (u : Value), BindsTo s fd ⟨[u], []⟩ [(x, u)])
    (hsp : ∀ H : Hp, Only H → SqL K H a (ns.map V.int) → sp [.ref a] H (fun v _ => v = .bl true) fun _ _ _ => False)
    (hCX : ∀ H e s', CX [] H s₁ (fun _ _ _ => False) e s' → False) :
    codeAny (model P w) callerA (.call (.ref fa) ⟨[.ref a], []⟩) (fun r s' => r = .ok (.ret (.bool true)) ∧ OldK s₁.heap s'.heap ∧ s'.os = s₁.os ∧ AllBare s'.gens) s₁ := by
  have lenV := hi.length
  let scriptO : Obj := { cls := .type "list", data := .seq vs.toArray }
  -- what is tracked: the script, unless it is one of the module's own objects
  let H : Hp := fun b => if b = a ∧ K.lookup a = none then some (.frz scriptO (.lst (ns.map V.int))) else none
  have H1 : ∀ b u, H b = some u → b = a ∧ K.lookup a = none ∧ u = .frz scriptO (.lst (ns.map V.int)) := fun b u e => by
    show b = a ∧ _ ∧ _
    by_cases c : b = a ∧ K.lookup a = none
    · have e' : some (HO.frz scriptO (.lst (ns.map V.int))) = some u := (if_pos c).symm.trans e
      exact ⟨c.1, c.2, (Option.some.inj e').symm⟩
    · have e' : (none : Option HO) = some u := (if_neg c).symm.trans e
      cases e'
  have only : Only H := fun b => by
    cases e : H b with
    | none => exact .inl rfl
    | some u =>
      obtain ⟨_, _, rfl⟩ := H1 b u e
      exact .inr ⟨_, _, rfl⟩
  have seq : SqL K H a (ns.map V.int) := by
    cases hk : K.lookup a with
    | none => exact .inl (.inr ⟨scriptO, if_pos ⟨rfl, hk⟩⟩)
    | some o =>
      have e := KX a o hk
      rw [ha] at e
      cases e
      exact .inr ⟨_, vs.toArray, _, hk, rfl, rfl, rfl, by rw [List.size_toArray, lenV]; exact hl, by simpa using vals_ints hi⟩
  have ok : HOk P w H s₁.heap := fun b u e => by
    obtain ⟨rfl, _, rfl⟩ := H1 b u e
    exact ⟨ha, by rw [List.length_map]; exact hl, vs, _, vals_ints hi, ha⟩
  -- objects of other kinds than the script are not tracked
  have dictFree : ∀ {b : Addr} {o : Obj} {es : Array DictEntry} {ep : Nat}, s₁.heap.get? b = some o → o.data = .dict es ep → H b = none := fun {b o es ep} e d => by
    cases q : H b with
    | none => rfl
    | some u =>
      obtain ⟨rfl, _, _⟩ := H1 b u q
      rw [ha] at e
      cases e
      exact nomatch (show Data.seq vs.toArray _ = Data.dict es ep from d)
  have ns0 : ∀ {b : Addr} {m : Str → Option Value}, s₁.heap.Ns b m → (hidT s₁.heap H).Ns b m := fun {b m} ⟨o, es, ep, e, d, r⟩ => ⟨o, es, ep, hidT_get e (dictFree e d), d, r⟩
  have kin0 : K.In (hidT s₁.heap H) := fun b o e => hidT_get (KX b o e) (by
    cases q : H b with
    | none => rfl
    | some u =>
      obtain ⟨rfl, hk, _⟩ := H1 b u q
      rw [hk] at e; cases e)
  have md : Mod K mg (hidT s₁.heap H) := ⟨kin0, ns0 hns, ⟨mb, ns0 hb, hbb⟩, let ⟨mc, c1, c2⟩ := hlim; ⟨mc, ns0 c1, c2⟩⟩
  have e0 : Env0 P w K mg (hidT s₁.heap H) callerA [] s₁ H := ⟨rfl, md, fun b o e => of_hidT e, Nat.le_of_eq (hidT_size _ _), trivial, fun b hb => absurd (show b ∈ ([] : List Addr) from hb) (by simp), ok, .of_eq hg⟩
  have go := (F _ kin0 (ns0 hns)).run callerA rfl [] s₁ H ⟨[.ref a], []⟩ [.ref a] [.ref a] _ _ hr e0 (hbind s₁ (.ref a)) (.cons rfl .nil) (hsp H only seq)
  refine codeAny_mono go fun r s' h => ?_
  match r, h with
  | .error e, h => exact (hCX H e s' h).elim
  | .ok (.ret u), ⟨v, H', os, bare, un, hok', r', q⟩ =>
    have q' : v = .bl true := q
    subst q'
    cases (show u = Value.bool true from r')
    refine ⟨rfl, OldK.of_keep fun b o e => ?_, os, bare⟩
    cases q : H b with
    | none => exact un.keep b o e q (fun z => absurd (show b ∈ ([] : List Addr) from z) (by simp)) (by simp)
    | some u =>
      obtain ⟨rfl, _, rfl⟩ := H1 b u q
      have w2 := (hok' _ _ (un.frzs _ _ _ q)).1
      rw [ha] at e
      cases e
      exact w2
theorem walk_ofG {l : PySem.W.OpenLaw} {n k : Nat} {q : Program} {loose : List Str} {XP : (Str → Option Value) → Heap → Prop} {YP : World → Heap → Prop} {d : DefRec} {K : Params → PySem.W.Frag} {CX : World → CXT} {sp : World → Sp} {x : Str}
    (hn : l.most = some n) (hn2 : n ≤ sizeLine) (hdf : d.params.defaults = []) (hr : Room k callerA)
    (hY : ∀ (w : World) (h : Heap), YP w h → (K w.params).In h)
    (F : ∀ (w : World) (mg : Str → Option Value) (fa : Addr) (h : Heap), (K w.params).In h → h.Ns mainGlobals mg → mg d.name = some (.ref fa) → XP mg h →
      ∃ fd : FuncData, (∀ (s : Shared) (u : Value), BindsTo s fd ⟨[u], []⟩ [(x, u)]) ∧
        ∀ base : Heap, (K w.params).In base → base.Ns mainGlobals mg → FnG l.prog w (K w.params) mg base (CX w) k fa fd [x] (sp w))
    (hsp : ∀ (w : World) (H : Hp) (a : Addr) (ns : List Int), ns.length ≤ n → Only H → SqL (K w.params) H a (ns.map V.int) → sp w [.ref a] H (fun v _ => v = .bl true) fun _ _ _ => False)
    (hCX : ∀ (w : World) (H : Hp) (s : Shared) (e : Value) (s' : Shared), CX w [] H s (fun _ _ _ => False) e s' → False) :
    PySem.W.WalkO q loose XP YP l.row.toRowW d [] (fun f vs => PySem.call f vs) :=
  Att.attach_call hn hdf fun w _ s₁ mg mb fa _ _ _ _ a vs ns G Y _ _ _ hmg hobj hints hlen hg =>
    let ⟨_, hb, hF⟩ := F w mg fa _ (hY w _ Y) G.T.g hmg G.X
    law_callG (hY w _ Y) G.T.g G.T.b G.T.builtins G.T.nolimit hg hobj hints (Nat.le_trans hlen hn2) hr hF hb (fun H hO hS => hsp w H a ns hlen hO hS) fun H e s' => hCX w H s₁ e s'
/-- a number that the top keeps under a name, whatever its token -/
theorem loose_int {p : Program} {lv : List (Str × PySem.W.WData)} {mg : Str → Option Value} {h : Heap} {x : Str} {i : Int} (X : PySem.W.XL p lv mg h) (hm : (x, PySem.W.WData.int i) ∈ lv) : ∃ u, mg x = some u ∧ L2.RelV (.int i) u := by
  obtain ⟨v, e, r⟩ := X.2.val _ hm
  cases r
  exact ⟨_, e, _, rfl⟩
end Jg

/-! defs, methods, properties and classes by their names: addresses hidden -/
namespace Jg
open PySem PySem.Spec PyProof.Rows L2

theorem iteFe {A D : Prop} {b : Bool} (e : b = false) (h : D) : if b = true then A else D := by rw [e]; exact iteF h
theorem iteTe {A D : Prop} {b : Bool} (e : b = true) (h : A) : if b = true then A else D := by rw [e]; exact iteT h
/-- a def of the module as the top leaves it -/
structure DefK (K : PySem.W.Frag) (mg : Str → Option Value) (x : Str) (st : Stmt) : Prop where
  ex : ∃ f fd, Fun K x x st f fd ∧ mg x = some (.ref f)
theorem DefK.of {K : PySem.W.Frag} {h : Heap} {mg : Str → Option Value} {x : Str} {st : Stmt} {f : Addr} {oc : Value} {od an : Option Addr} {osl : Array (Option Value)} {kV doc pm cdv ct : Value} (X : K.In h) (G : h.Ns mainGlobals mg)
    (a : PySem.W.nsIn K mainGlobals x = some (some (.ref f))) (l : K.lookup f = some ⟨oc, od, .func (PySem.W.fnOf x x (defArgs st) (defBody st) (defScope st) .none kV doc pm an cdv ct), osl⟩)
    (c : PySem.W.codeIn K cdv x = true) (k : PySem.W.keepIn K (.ref f) = true) : DefK K mg x st := ⟨f, _, fun_mk l c k, PySem.W.mg_of X G a⟩
/-- a method of the class at C -/
structure MetK (K : PySem.W.Frag) (C : Addr) (m qual : Str) (st : Stmt) : Prop where
  ex : ∃ f fd, Fun K m qual st f fd ∧ PySem.W.findIn K (.ref C) m = some (some (.ref f)) ∧ PySem.W.isFn K (.ref f) = true
theorem MetK.of {K : PySem.W.Frag} {C : Addr} {m qual : Str} {st : Stmt} {f : Addr} {oc : Value} {od an : Option Addr} {osl : Array (Option Value)} {kV doc pm cdv ct : Value}
    (a : PySem.W.findIn K (.ref C) m = some (some (.ref f))) (i : PySem.W.isFn K (.ref f) = true) (l : K.lookup f = some ⟨oc, od, .func (PySem.W.fnOf m qual (defArgs st) (defBody st) (defScope st) .none kV doc pm an cdv ct), osl⟩)
    (c : PySem.W.codeIn K cdv qual = true) (k : PySem.W.keepIn K (.ref f) = true) : MetK K C m qual st := ⟨f, _, fun_mk l c k, a, i⟩
/-- a property of the class at C -/
structure PrpK (K : PySem.W.Frag) (C : Addr) (m qual : Str) (st : Stmt) : Prop where
  ex : ∃ p f fd, Fun K m qual st f fd ∧ PropOf K C m p f
theorem PrpK.of {K : PySem.W.Frag} {C : Addr} {m qual : Str} {st : Stmt} {p f : Addr} {rest : List Value} {oc : Value} {od an : Option Addr} {osl : Array (Option Value)} {kV doc pm cdv ct : Value}
    (a : PySem.W.findIn K (.ref C) m = some (some (.ref p))) (g : PySem.W.specialIn K (.ref p) "__get__" = some (some (.builtin "property.__get__"))) (tk : PySem.W.takesIn K (.ref p) = some true) (rc : PySem.W.recIn K p "property" = some (.ref f :: rest))
    (l : K.lookup f = some ⟨oc, od, .func (PySem.W.fnOf m qual (defArgs st) (defBody st) (defScope st) .none kV doc pm an cdv ct), osl⟩)
    (c : PySem.W.codeIn K cdv qual = true) (k : PySem.W.keepIn K (.ref f) = true) : PrpK K C m qual st := ⟨p, f, _, fun_mk l c k, ⟨a, g, tk, rest, rc⟩⟩
/-- a classmethod of the class at C -/
structure CmtK (K : PySem.W.Frag) (C : Addr) (mc : Value) (m qual : Str) (st : Stmt) : Prop where
  ex : ∃ p f fd, Fun K m qual st f fd ∧ ClX.CRead K C mc ∧ ClX.CMet K C mc m p f
theorem CmtK.of {K : PySem.W.Frag} {C : Addr} {mc : Value} {m qual : Str} {st : Stmt} {p f : Addr} {rest : List Value} {oc : Value} {od an : Option Addr} {osl : Array (Option Value)} {kV doc pm cdv ct : Value}
    (rd : PySem.W.readsIn K C mc = true) (ga : PySem.W.specialIn K (.ref C) "__getattribute__" = some (some (.builtin "type.__getattribute__")))
    (a : PySem.W.findCls K (.ref C) mc m = some (.get (.builtin "classmethod.__get__") (.ref p) .none (.ref C))) (rc : PySem.W.recIn K p "classmethod" = some (.ref f :: rest)) (fi : PySem.W.fnIn K f = true)
    (l : K.lookup f = some ⟨oc, od, .func (PySem.W.fnOf m qual (defArgs st) (defBody st) (defScope st) .none kV doc pm an cdv ct), osl⟩)
    (c : PySem.W.codeIn K cdv qual = true) (k : PySem.W.keepIn K (.ref f) = true) : CmtK K C mc m qual st := ⟨p, f, _, fun_mk l c k, ⟨rd, ga⟩, ⟨a, ⟨rest, rc⟩, fi⟩⟩

section
variable (P : Program) (w : World) (K : PySem.W.Frag) (mg : Str → Option Value) (base : Heap) (CX : CXT) (k : Nat)
/-- a def that may be called by its name -/
structure Cal (x : Str) (sp : Sp) : Prop where
  ex : ∃ f fd ps, FnOk P w K mg base CX k f fd ps sp ∧ mg x = some (.ref f) ∧ PySem.W.keepIn K (.ref f) = true ∧ Binds K fd ps []
structure CalG (x : Str) (sp : Sp) : Prop where
  ex : ∃ f fd ps, FnG P w K mg base CX k f fd ps sp ∧ mg x = some (.ref f) ∧ PySem.W.keepIn K (.ref f) = true ∧ Binds K fd ps []
/-- a method of the class at C -/
structure Met (C : Addr) (m : Str) (sp : Sp) : Prop where
  ex : ∃ f fd ps, FnOk P w K mg base CX k f fd ps sp ∧ PySem.W.findIn K (.ref C) m = some (some (.ref f)) ∧ PySem.W.isFn K (.ref f) = true ∧ PySem.W.keepIn K (.ref f) = true ∧ Binds K fd ps []
structure Prp (C : Addr) (m : Str) (sp : Sp) : Prop where
  ex : ∃ p f fd ps, FnOk P w K mg base CX k f fd ps sp ∧ PropOf K C m p f ∧ Binds K fd ps []
structure Cmt (C : Addr) (mc : Value) (m : Str) (sp : Sp) : Prop where
  ex : ∃ p f fd ps, FnOk P w K mg base CX k f fd ps sp ∧ ClX.CRead K C mc ∧ ClX.CMet K C mc m p f ∧ Binds K fd ps []
end
theorem CalG.of {P : Program} {w : World} {K : PySem.W.Frag} {mg : Str → Option Value} {base : Heap} {CX : CXT} {k : Nat} {x : Str} {sp : Sp} (c : Cal P w K mg base CX k x sp) : CalG P w K mg base CX k x sp :=
  let ⟨f, fd, ps, F, a⟩ := c.ex
  ⟨f, fd, ps, .of F, a⟩

/-- how a def of the text binds its arguments -/
def BindOk (x qual : Str) (st : Stmt) (ps : List Str) : Prop :=
  ∀ (kV doc pm : Value) (an : Option Addr) (cdv ct : Value) (us : List Value), us.length = ps.length → bindArgs (PySem.W.fnOf x qual (defArgs st) (defBody st) (defScope st) .none kV doc pm an cdv ct) ⟨us, []⟩ = pure (ps.zip us)
/-- what a body must show -/
def BodyOk (CX : CXT) (P : Program) (w : World) (K : PySem.W.Frag) (mg : Str → Option Value) (base : Heap) (N : List Str) (qual : Str) (st : Stmt) (f : Addr) (k : Nat) (sp : Sp) : Prop :=
  ∀ (cdv : Value) (A : Around) (outer : List Env) (s : Shared) (H : Hp) (vs : List V) (Q : VK) (E : XK), Room k (A.deeper (envOfC qual (defScope st) s.heap.objs.size f cdv)) → sp vs H Q E →
      ∃ t, PSs (cxOf CX P w K mg base N qual (defScope st) f cdv A outer s H E).nox (defBody st) t ∧ t { nx := fun _ H' => Q .non H', rt := Q } (start N vs) H
section
variable {P : Program} {w : World} {K : PySem.W.Frag} {mg : Str → Option Value} {base : Heap} {k : Nat} {C : Addr} {mc : Value} {x m qual : Str} {st : Stmt} {N ps : List Str} {sp : Sp}
theorem DefK.cal (D : DefK K mg x st) (S : FnScope N ps (defScope st)) (b : BindOk x x st ps) (len : ∀ vs H Q E, sp vs H Q E → vs.length = ps.length) (hb : ∀ f, BodyOk CX0 P w K mg base N x st f k sp) : Cal P w K mg base CX0 (k + 1) x sp :=
  let ⟨f, fd, F, m⟩ := D.ex
  ⟨f, fd, ps, F.ok S len (hb f), m, F.kp, F.binds b⟩
theorem DefK.calG (D : DefK K mg x st) (S : FnScope N ps (defScope st)) (b : BindOk x x st ps) (len : ∀ vs H Q E, sp vs H Q E → vs.length = ps.length)
    (hb : ∀ (f : Addr) (cdv : Value) (A : Around) (outer : List Env) (s : Shared) (H : Hp) (vs : List V) (Q : VK) (E : XK), (cxOf CX0 P w K mg base N x (defScope st) f cdv A outer s H E).nox.A.guards = some [] → Room k (A.deeper (envOfC x (defScope st) s.heap.objs.size f cdv)) → sp vs H Q E →
      ∃ t, PSs (cxOf CX0 P w K mg base N x (defScope st) f cdv A outer s H E).nox (defBody st) t ∧ t { nx := fun _ H' => Q .non H', rt := Q } (start N vs) H) : CalG P w K mg base CX0 (k + 1) x sp :=
  let ⟨f, fd, F, m⟩ := D.ex
  ⟨f, fd, ps, fnG_of F S len fun cdv A outer s H vs Q E g hr h =>
    let ⟨t, a, q⟩ := hb f cdv A outer s H vs Q E (guards_deeper g) hr h
    ⟨t, a.nox, q⟩, m, F.kp, F.binds b⟩
/-- .. and the function object, for the end -/
theorem DefK.fnG {fa : Addr} (D : DefK K mg x st) (hm : mg x = some (.ref fa)) (S : FnScope N ps (defScope st)) (b : BindOk x x st ps) (len : ∀ vs H Q E, sp vs H Q E → vs.length = ps.length) :
    ∃ fd : FuncData, Binds K fd ps [] ∧ ∀ (base : Heap), (∀ (f : Addr) (cdv : Value) (A : Around) (outer : List Env) (s : Shared) (H : Hp) (vs : List V) (Q : VK) (E : XK), (cxOf CX0 P w K mg base N x (defScope st) f cdv A outer s H E).nox.A.guards = some [] → Room k (A.deeper (envOfC x (defScope st) s.heap.objs.size f cdv)) → sp vs H Q E →
      ∃ t, PSs (cxOf CX0 P w K mg base N x (defScope st) f cdv A outer s H E).nox (defBody st) t ∧ t { nx := fun _ H' => Q .non H', rt := Q } (start N vs) H) → FnG P w K mg base CX0 (k + 1) fa fd ps sp := by
  obtain ⟨f, fd, F, m⟩ := D.ex
  rw [hm] at m
  cases m
  exact ⟨fd, F.binds b, fun base hb => fnG_of F S len fun cdv A outer s H vs Q E g hr h =>
    let ⟨t, a, q⟩ := hb _ cdv A outer s H vs Q E (guards_deeper g) hr h
    ⟨t, a.nox, q⟩⟩
theorem MetK.met (D : MetK K C m qual st) (S : FnScope N ps (defScope st)) (b : BindOk m qual st ps) (len : ∀ vs H Q E, sp vs H Q E → vs.length = ps.length) (hb : ∀ f, BodyOk CX0 P w K mg base N qual st f k sp) : Met P w K mg base CX0 (k + 1) C m sp :=
  let ⟨f, fd, F, a, i⟩ := D.ex
  ⟨f, fd, ps, F.ok S len (hb f), a, i, F.kp, F.binds b⟩
theorem PrpK.prp (D : PrpK K C m qual st) (S : FnScope N ps (defScope st)) (b : BindOk m qual st ps) (len : ∀ vs H Q E, sp vs H Q E → vs.length = ps.length) (hb : ∀ f, BodyOk CX0 P w K mg base N qual st f k sp) : Prp P w K mg base CX0 (k + 1) C m sp :=
  let ⟨p, f, fd, F, a⟩ := D.ex
  ⟨p, f, fd, ps, F.ok S len (hb f), a, F.binds b⟩
theorem CmtK.cmt (D : CmtK K C mc m qual st) (S : FnScope N ps (defScope st)) (b : BindOk m qual st ps) (len : ∀ vs H Q E, sp vs H Q E → vs.length = ps.length) (hb : ∀ f, BodyOk CX0 P w K mg base N qual st f k sp) : Cmt P w K mg base CX0 (k + 1) C mc m sp :=
  let ⟨p, f, fd, F, r, a⟩ := D.ex
  ⟨p, f, fd, ps, F.ok S len (hb f), r, a, F.binds b⟩
end

section
variable {X : Cx} {k j : Nat} {C : Addr} {mc : Value} {x m : Str} {sp : Sp} {p pos apos : Pos} {e o : Expr} {es : List Expr} {ta : TE} {t : TA}
theorem pe_c (c : Cal X.prog X.w X.K X.mg X.base CX0 k x sp) (hr : Room j X.A) (hk : k ≤ j) (hg : Gl X x) (ha : PA X (e :: es) t)
    (hdb : (x == ("__debug__" : Str)) = false := by decide) (he : starEach (e :: es) X.env = (false, eval e X.env) :: starEach es X.env := by rfl) (hpl : (backTo pos (starEach es X.env)).any (·.1) = false := by rfl) :
    PE X (.Call (.Name x p) (e :: es) [] pos) (tCall sp [] E0 t) := by
  obtain ⟨f, fd, ps, F, hm, kp, b⟩ := c.ex
  exact pe_call F (hr.mono hk) hg hm kp b .nil pass0 ha hdb he hpl
theorem pe_cG (c : CalG X.prog X.w X.K X.mg X.base CX0 k x sp) (g : X.A.guards = some []) (hr : Room j X.A) (hk : k ≤ j) (hg : Gl X x) (ha : PA X (e :: es) t)
    (hdb : (x == ("__debug__" : Str)) = false := by decide) (he : starEach (e :: es) X.env = (false, eval e X.env) :: starEach es X.env := by rfl) (hpl : (backTo pos (starEach es X.env)).any (·.1) = false := by rfl) :
    PE X (.Call (.Name x p) (e :: es) [] pos) (tCall sp [] E0 t) := by
  obtain ⟨f, fd, ps, F, hm, kp, b⟩ := c.ex
  exact pe_callG F g (hr.mono hk) hg hm kp b .nil pass0 ha hdb he hpl
/-- a class that is made by its name -/
structure Mak (P : Program) (w : World) (K : PySem.W.Frag) (mg : Str → Option Value) (base : Heap) (CX : CXT) (k : Nat) (x : Str) (C : Addr) (sp : Sp) : Prop where
  mg_ : mg x = some (.ref C)
  mks : PySem.W.makesIn K C = true
  kp : PySem.W.keepIn K (.ref C) = true
  init : Met P w K mg base CX k C "__init__" sp
theorem pe_mk (c : Mak X.prog X.w X.K X.mg X.base CX0 k x C sp) (hr : Room j X.A) (hk : k + 1 ≤ j) (hg : Gl X x) (ha : PA X (e :: es) t)
    (hdb : (x == ("__debug__" : Str)) = false := by decide) (he : starEach (e :: es) X.env = (false, eval e X.env) :: starEach es X.env := by rfl) (hpl : (backTo pos (starEach es X.env)).any (·.1) = false := by rfl) :
    PE X (.Call (.Name x p) (e :: es) [] pos) (tMake C sp [] E0 t) := by
  obtain ⟨f, fd, ps, F, a, i, kp, b⟩ := c.init.ex
  exact pe_make ⟨c.mks, a, i, c.kp⟩ F (hr.mono hk) hg c.mg_ b .nil pass0 ha hdb he hpl
theorem pe_mkL {i : Nat} (c : Mak X.prog X.w X.K X.mg X.base CX0 k m C sp) (hr : Room j X.A) (hk : k + 1 ≤ j) (hN : X.N[i]? = some x) (hv : Vis X.env.scope x) (ha : PA X (e :: es) t)
    (hdb : (x == ("__debug__" : Str)) = false := by decide) (hcd : (x == ("__classdict__" : Str)) = false := by decide)
    (he : starEach (e :: es) X.env = (false, eval e X.env) :: starEach es X.env := by rfl) (hpl : (backTo pos (starEach es X.env)).any (·.1) = false := by rfl) : PE X (.Call (.Name x p) (e :: es) [] pos) (tMakeL i C sp [] E0 t) := by
  obtain ⟨f, fd, ps, F, a, b', kp, b⟩ := c.init.ex
  exact pe_makeL ⟨c.mks, a, b', c.kp⟩ F (hr.mono hk) hN hv b .nil pass0 ha hdb hcd he hpl
theorem pe_m {pl : Sem Bool} (c : Met X.prog X.w X.K X.mg X.base CX0 k C m sp) (cl : Cls X.K C) (hr : Room j X.A) (hk : k ≤ j) (he : PE X o ta) (ha : PA X (e :: es) t)
    (hst : starEach (e :: es) X.env = (false, eval e X.env) :: starEach es X.env := by rfl) (hpl : (backTo pos (starEach es X.env)).any (·.1) = false := by rfl)
    (ht : eval (.Call (.Attribute o m apos) (e :: es) [] pos) X.env = (do
      let ov ← eval o X.env
      standAt apos.atName
      let (f, first) ← holding [ov] (getMethod ov m pl)
      callWith pos f first (backTo pos (starEach (e :: es) X.env)) (backToKw pos (keywordEach [] X.env))) := by rfl) :
    PE X (.Call (.Attribute o m apos) (e :: es) [] pos) (tMeth C m sp [] E0 ta t) := by
  obtain ⟨f, fd, ps, F, a, i, kp, b⟩ := c.ex
  exact pe_meth (pl := pl) he cl ⟨a, i, kp⟩ F (hr.mono hk) b .nil pass0 ha hst hpl ht
theorem pe_p (c : Prp X.prog X.w X.K X.mg X.base CX0 k C m sp) (cl : Cls X.K C) (hr : Room j X.A) (hk : k + 1 ≤ j) (he : PE X o ta)
    (hab : attributeBase o m X.env (eval o X.env) = eval o X.env := by rfl) : PE X (.Attribute o m pos) (tProp C sp [] E0 ta) := by
  obtain ⟨q, f, fd, ps, F, a, b⟩ := c.ex
  exact pe_prop he cl a F (hr.mono hk) b .nil pass0 hab
theorem op_c {op : CmpOp} {m : Str} (c : Met X.prog X.w X.K X.mg X.base CX0 k C m sp) (hr : Room j X.A) (hk : k ≤ j) (hm : m = (cmpInfo op).2.1 := by rfl)
    (hc : ∀ v u, compareOp op v u = richCompare op v u := by intro _ _; rfl) : OpR X (compareOp op) (rOwn X.K C sp E0) := by
  subst hm
  obtain ⟨f, fd, ps, F, a, i, kp, b⟩ := c.ex
  exact op_own F (hr.mono hk) ⟨a, i⟩ b pass0 hc
theorem op_b {op : Operator} {m : Str} (c : Met X.prog X.w X.K X.mg X.base CX0 k C m sp) (sf : PySem.W.selfFirst X.K C = true) (hr : Room j X.A) (hk : k ≤ j) (hm : m = PySem.dunder op.info.2 := by rfl) : OpR X (binaryOp op) (rOwnB C sp E0) := by
  subst hm
  obtain ⟨f, fd, ps, F, a, i, kp, b⟩ := c.ex
  exact op_ownB F (hr.mono hk) ⟨a, i⟩ sf b pass0
theorem op_in (c : Met X.prog X.w X.K X.mg X.base CX0 k C "__contains__" sp) (hr : Room j X.A) (hk : k ≤ j) : OpR X (compareOp .In) (rOwnIn C sp E0) := by
  obtain ⟨f, fd, ps, F, a, i, kp, b⟩ := c.ex
  exact op_ownIn F (hr.mono hk) ⟨a, i⟩ b pass0
theorem op_notIn (c : Met X.prog X.w X.K X.mg X.base CX0 k C "__contains__" sp) (hr : Room j X.A) (hk : k ≤ j) : OpR X (compareOp .NotIn) (rOwnNotIn C sp E0) := by
  obtain ⟨f, fd, ps, F, a, i, kp, b⟩ := c.ex
  exact op_ownNotIn F (hr.mono hk) ⟨a, i⟩ b pass0
/-- a name of the module, by its value; a built-in type by its name -/
theorem pe_gc {v : V} (hg : Gl X x) (h : ∃ u, X.mg x = some u ∧ L2.RelV v u) (hd : (x == ("__debug__" : Str)) = false := by decide) : PE X (.Name x pos) (tC v) := by
  obtain ⟨u, hm, r⟩ := h
  exact pe_glob hg hm r hd
theorem pe_ty {n : String} (hg : Gl X x) (hm : X.mg x = none) (hv : bootBuiltins x = some (.type n)) (hn : x ≠ "__name__" := by decide) (hd : (x == ("__debug__" : Str)) = false := by decide) : PE X (.Name x pos) (tC (.ty n)) :=
  pe_bltn (v := .ty n) (u := .type n) hg hm hv rfl hn hd
theorem pe_cm0 {pl : Sem Bool} (c : Cmt X.prog X.w X.K X.mg X.base CX0 k C mc m sp) (hr : Room j X.A) (hk : k ≤ j) (he : PE X o ta)
    (ht : eval (.Call (.Attribute o m apos) [] [] pos) X.env = (do
      let ov ← eval o X.env
      standAt apos.atName
      let (f, first) ← holding [ov] (getMethod ov m pl)
      callWith pos f first (backTo pos (starEach [] X.env)) (backToKw pos (keywordEach [] X.env))) := by rfl) :
    PE X (.Call (.Attribute o m apos) [] [] pos) (ClX.tCMeth C (fun vs H Q E => sp (vs ++ []) H Q E) E0 ta tNil) := by
  obtain ⟨q, f, fd, ps, F, r, a, b⟩ := c.ex
  exact pe_cmeth0 (pl := pl) he r a (F.raw b .nil) (hr.mono hk) pass0 ht
end
end Jg

/-! comprehensions that filter ints: [m for m in .. if test], the test pure -/
namespace Jg
open PySem PySem.Spec PyProof.Rows L2
def win (lo : Int) (n : Nat) : List Int := (List.range n).map fun j => lo + (j : Nat)
theorem win_succ (lo : Int) (n : Nat) : win lo (n + 1) = win lo n ++ [lo + (n : Nat)] := by
  unfold win
  rw [List.range_succ, List.map_append]; rfl
theorem win_len (lo : Int) (n : Nat) : (win lo n).length = n := by unfold win; simp
/-- the shape that a list comprehension's reading asks -/
abbrev LcAsk (J : It) (g : TG) (tt : TT) (te : TE) (vs : List Nat) (σ : L2.St) (H1 : Hp) (D : Addr) (Qd : Hp → Prop) : Prop :=
  ∃ W : Nat → Nat → Hp → Prop, (∃ m, W 0 m (upd H1 D (.lst []))) ∧ ∀ i m H, W i m H →
      (J.stop i H ∧ Qd H) ∨ (J.go i H ∧ ∃ Nx : Hp → Prop, (∀ H', Nx H' → ∃ m', m' < m ∧ W (i + 1) m' H') ∧ ∀ x H', J.yld i H x H' → g x (wipe σ vs) H' fun σ2 H2 => wipe σ2 vs = wipe σ vs ∧ tt σ2 H2 fun b H3 =>
        if b = true then te σ2 H3 fun y H4 => ∃ acc, H4 D = some (.lst acc) ∧ acc.length < sizeLine ∧ Nx (upd H4 D (.lst (acc ++ [y]))) else Nx H3)
section
variable {i : Nat} {tt : TT} {σ : L2.St} {H1 : Hp} {D : Addr} {Qd : Hp → Prop} {vs : List Nat}
theorem filt_step {p : Int → Bool} {ms : List Int} {m : Int} (nD : H1 D = none) (hl : ms.length < 1000) (hw : wipe ((wipe σ vs).set i (some (.int m))) vs = wipe σ vs) (hi : ((wipe σ vs).set i (some (.int m)))[i]? = some (some (.int m)))
    (ht : ∀ H (k : Bool → Hp → Prop), Same H1 H → k (p m) H → tt ((wipe σ vs).set i (some (.int m))) H k) (Pv : Hp → Prop) (hP : Pv (upd H1 D (.lst (((ms ++ [m]).filter p).map V.int)))) :
    gName i (.int m) (wipe σ vs) (upd H1 D (.lst ((ms.filter p).map V.int))) fun σ2 H2 => wipe σ2 vs = wipe σ vs ∧ tt σ2 H2 fun b H3 =>
      if b = true then tVar i σ2 H3 fun y H4 => ∃ acc, H4 D = some (.lst acc) ∧ acc.length < sizeLine ∧ Pv (upd H4 D (.lst (acc ++ [y]))) else Pv H3 := by
  refine ⟨hw, ht _ _ (fun b o e => by rw [upd_ne (ne_of_none e nD)]; exact e) ?_⟩
  have e1 : (ms ++ [m]).filter p = ms.filter p ++ [m].filter p := List.filter_append ..
  cases hp : p m with
  | true =>
    have e2 : [m].filter p = [m] := by simp [List.filter, hp]
    rw [e1, e2, List.map_append] at hP
    refine iteT ⟨.int m, hi, _, upd_same, ?_, ?_⟩
    · rw [List.length_map]
      exact small1000 (Nat.le_trans (List.length_filter_le ..) (Nat.le_of_lt hl))
    · rw [upd_upd]
      exact hP
  | false =>
    have e2 : [m].filter p = [] := by simp [List.filter, hp]
    rw [e1, e2, List.append_nil] at hP
    exact iteF hP
theorem lcf_range {lo : Int} {n : Nat} (p : Int → Bool) (nD : H1 D = none) (hn : n ≤ 900) (hw : ∀ m : Int, wipe ((wipe σ vs).set i (some (.int m))) vs = wipe σ vs) (hi : ∀ m : Int, ((wipe σ vs).set i (some (.int m)))[i]? = some (some (.int m)))
    (ht : ∀ (m : Int) H (k : Bool → Hp → Prop), m ∈ win lo n → Same H1 H → k (p m) H → tt ((wipe σ vs).set i (some (.int m))) H k) (hd : Qd (upd H1 D (.lst (((win lo n).filter p).map V.int)))) :
    LcAsk (Itr lo n) (gName i) tt (tVar i) vs σ H1 D Qd := by
  refine lc_range (lo := lo) (n := n) (fun j H => H = upd H1 D (.lst (((win lo j).filter p).map V.int))) rfl (fun j H hj e => ?_) fun H e => e ▸ hd
  subst e
  have hm : lo + (j : Nat) ∈ win lo n := List.mem_map.mpr ⟨j, List.mem_range.mpr hj, rfl⟩
  exact filt_step (p := p) nD (by rw [win_len]; omega) (hw _) (hi _) (fun H k => ht _ H k hm) (fun H => H = upd H1 D (.lst (((win lo (j + 1)).filter p).map V.int))) (by rw [win_succ])
theorem lcf_list {K : PySem.W.Frag} {a : Addr} {ms : List Int} (p : Int → Bool) (hs : SqL K H1 a (ms.map V.int)) (nD : H1 D = none) (hn : ms.length ≤ 900) (hw : ∀ m : Int, wipe ((wipe σ vs).set i (some (.int m))) vs = wipe σ vs) (hi : ∀ m : Int, ((wipe σ vs).set i (some (.int m)))[i]? = some (some (.int m)))
    (ht : ∀ (m : Int) H (k : Bool → Hp → Prop), m ∈ ms → Same H1 H → k (p m) H → tt ((wipe σ vs).set i (some (.int m))) H k) (hd : Qd (upd H1 D (.lst ((ms.filter p).map V.int)))) :
    LcAsk (Itl K a) (gName i) tt (tVar i) vs σ H1 D Qd := by
  have sn : ∀ o, Same H1 (upd H1 D o) := fun o b u e => by rw [upd_ne (ne_of_none e nD)]; exact e
  refine lc_list (K := K) (a := a) (xs := ms.map V.int) (fun j H => H = upd H1 D (.lst (((ms.take j).filter p).map V.int))) rfl (fun j H _ e => e ▸ (sn _).seq hs) (fun j x H hx e => ?_) fun H e => ?_
  · subst e
    rw [List.getElem?_map] at hx
    cases hm : ms[j]? with
    | none => rw [hm] at hx; cases hx
    | some m =>
      rw [hm] at hx
      cases hx
      have e2 : ms.take (j + 1) = ms.take j ++ [m] := by rw [List.take_add_one, hm]; rfl
      exact filt_step (p := p) nD (by rw [List.length_take]; omega) (hw _) (hi _) (fun H k => ht _ H k (List.mem_of_getElem? hm)) (fun H => H = upd H1 D (.lst (((ms.take (j + 1)).filter p).map V.int))) (by rw [e2])
  · rw [List.length_map, List.take_length] at e
    exact e ▸ hd
end
/-! ### strictly sorted lists of ints -/
theorem sorted_ext : ∀ {xs ys : List Int}, xs.Pairwise (· < ·) → ys.Pairwise (· < ·) → (∀ k, k ∈ xs ↔ k ∈ ys) → xs = ys
  | [], [], _, _, _ => rfl
  | [], y :: ys, _, _, h => absurd ((h y).mpr List.mem_cons_self) (by simp)
  | x :: xs, [], _, _, h => absurd ((h x).mp List.mem_cons_self) (by simp)
  | x :: xs, y :: ys, h1, h2, h => by
    obtain ⟨a1, a2⟩ := List.pairwise_cons.mp h1
    obtain ⟨b1, b2⟩ := List.pairwise_cons.mp h2
    have e : x = y := by
      have m1 := (h x).mp List.mem_cons_self
      have m2 := (h y).mpr List.mem_cons_self
      rcases List.mem_cons.mp m1 with z | z
      · exact z
      · rcases List.mem_cons.mp m2 with z' | z'
        · exact z'.symm
        · have := b1 x z
          have := a1 y z'
          omega
    subst e
    have t : xs = ys := sorted_ext a2 b2 fun k => by
      constructor
      · intro hk
        rcases List.mem_cons.mp ((h k).mp (List.mem_cons_of_mem _ hk)) with z | z
        · have := a1 k hk; omega
        · exact z
      · intro hk
        rcases List.mem_cons.mp ((h k).mpr (List.mem_cons_of_mem _ hk)) with z | z
        · have := b1 k hk; omega
        · exact z
    rw [t]
theorem win_sorted (lo : Int) (n : Nat) : (win lo n).Pairwise (· < ·) := by
  unfold win
  rw [List.pairwise_map]
  exact List.pairwise_lt_range.imp fun h => by omega
theorem mem_win {lo : Int} {n : Nat} {m : Int} : m ∈ win lo n ↔ lo ≤ m ∧ m < lo + n := by
  unfold win
  constructor
  · intro h
    obtain ⟨j, hj, rfl⟩ := List.mem_map.mp h
    have := List.mem_range.mp hj
    omega
  · intro h
    exact List.mem_map.mpr ⟨(m - lo).toNat, List.mem_range.mpr (by omega), by omega⟩
/-- the last item, the first one given -/
def lastOf (x : Int) : List Int → Int
  | [] => x
  | y :: r => lastOf y r
/-- how many there are at most between the first and the last, and when all of them are there -/
theorem tight : ∀ (x : Int) (l : List Int), (x :: l).Pairwise (· < ·) → x ≤ lastOf x l ∧ ((x :: l).length : Int) ≤ lastOf x l - x + 1 ∧ (((x :: l).length : Int) = lastOf x l - x + 1 ↔ ∀ m, x ≤ m → m ≤ lastOf x l → m ∈ x :: l)
  | x, [], _ => by
    refine ⟨Int.le_refl _, by show (1 : Int) ≤ x - x + 1; omega, ⟨fun _ m h1 h2 => ?_, fun _ => by show (1 : Int) = x - x + 1; omega⟩⟩
    have h3 : m ≤ x := h2
    have e : m = x := by omega
    rw [e]; exact List.mem_cons_self
  | x, y :: r, h => by
    obtain ⟨a1, a2⟩ := List.pairwise_cons.mp h
    have hxy := a1 y List.mem_cons_self
    obtain ⟨i1, i2, i3⟩ := tight y r a2
    have el : lastOf x (y :: r) = lastOf y r := rfl
    have en : ((x :: y :: r).length : Int) = ((y :: r).length : Int) + 1 := by simp
    rw [el, en]
    refine ⟨by omega, by omega, ⟨fun e m h1 h2 => ?_, fun q => ?_⟩⟩
    · have e1 : y = x + 1 := by omega
      by_cases c : m = x
      · rw [c]; exact List.mem_cons_self
      · exact List.mem_cons_of_mem _ (i3.mp (by omega) m (by omega) h2)
    · have e1 : y = x + 1 := by
        have m1 := q (x + 1) (by omega) (by omega)
        rcases List.mem_cons.mp m1 with z | z
        · omega
        · rcases List.mem_cons.mp z with z | z
          · exact z.symm
          · have := (List.pairwise_cons.mp a2).1 _ z
            omega
      have e2 := i3.mpr fun m h1 h2 => by
        rcases List.mem_cons.mp (q m (by omega) h2) with z | z
        · omega
        · exact z
      omega
theorem lastOf_get : ∀ (x : Int) (l : List Int), (x :: l)[l.length]? = some (lastOf x l)
  | x, [] => rfl
  | x, y :: r => by
    show (y :: r)[r.length]? = _
    exact lastOf_get y r
end Jg

/-! lists and tuples of ints as data: == and what it asks -/
namespace Jg
open PySem PySem.Spec PyProof.Rows L2
theorem lay_ints : ∀ xs : List Int, PyData.canLayAll0 (xs.map PyData.int) = true
  | [] => rfl
  | x :: xs => by
    show (PyData.canLay0 (.int x) && PyData.canLayAll0 (xs.map PyData.int)) = true
    rw [lay_ints xs]; rfl
theorem depth_ints : ∀ xs : List Int, PyData.depthAll (xs.map PyData.int) = 0
  | [] => rfl
  | x :: xs => by
    show max (PyData.depth (.int x)) (PyData.depthAll (xs.map PyData.int)) = 0
    rw [depth_ints xs]; rfl
theorem shaped_ints (xs : List Int) : SeqAt.shaped (.list (xs.map PyData.int)) = true := by
  show (PyData.canLayAll0 (xs.map PyData.int) && decide (PyData.depthAll (xs.map PyData.int) + 1 ≤ 64)) = true
  rw [lay_ints, depth_ints]; rfl
theorem shaped_tup (xs : List Int) : SeqAt.shaped (.tuple (xs.map PyData.int)) = true := by
  show (PyData.canLayAll0 (xs.map PyData.int) && decide (PyData.depthAll (xs.map PyData.int) + 1 ≤ 64)) = true
  rw [lay_ints, depth_ints]; rfl
theorem eqvAll_ints : ∀ xs ys : List Int, PyData.eqvAll (xs.map PyData.int) (ys.map PyData.int) = decide (xs = ys)
  | [], [] => rfl
  | [], y :: ys => rfl
  | x :: xs, [] => rfl
  | x :: xs, y :: ys => by
    have ih := eqvAll_ints xs ys
    show (PyData.eqv (.int x) (.int y) && PyData.eqvAll (xs.map PyData.int) (ys.map PyData.int)) = _
    rw [ih]
    have e : PyData.eqv (.int x) (.int y) = decide (x = y) := by
      by_cases c : x = y
      · subst c; simp [PyData.eqv]
      · simp [PyData.eqv, c]
    rw [e]
    by_cases c : x = y
    · subst c
      by_cases d : xs = ys
      · subst d; simp
      · simp [d]
    · simp [c]
theorem eqv_ints (xs ys : List Int) : PyData.eqv (.list (xs.map PyData.int)) (.list (ys.map PyData.int)) = decide (xs = ys) := by
  rw [PyData.eqv]; exact eqvAll_ints xs ys
theorem eqv_tup (xs ys : List Int) : PyData.eqv (.tuple (xs.map PyData.int)) (.tuple (ys.map PyData.int)) = decide (xs = ys) := by
  rw [PyData.eqv]; exact eqvAll_ints xs ys
theorem dpAll_ints {K : PySem.W.Frag} {H : Hp} : ∀ xs : List Int, DpAll K H (xs.map V.int) (xs.map PyData.int)
  | [] => .nil
  | x :: xs => .cons (.int x) (dpAll_ints xs)
theorem dp_ints {K : PySem.W.Frag} {H : Hp} {a : Addr} {xs : List Int} (h : SqL K H a (xs.map V.int)) : Dp K H (.ref a) (.list (xs.map PyData.int)) := .lst h (dpAll_ints xs)
theorem dp_tup {K : PySem.W.Frag} {H : Hp} {a : Addr} {xs : List Int} (h : SqT K H a (xs.map V.int)) : Dp K H (.ref a) (.tuple (xs.map PyData.int)) := .tup h (dpAll_ints xs)
/-- == of two lists of ints, of two tuples of ints -/
theorem ask_eqL {K : PySem.W.Frag} {H : Hp} {a b : Addr} {xs ys : List Int} {Q : VK} (h1 : SqL K H a (xs.map V.int)) (h2 : SqL K H b (ys.map V.int)) (q : Q (.bl (decide (xs = ys))) H) : rEqD K (.ref a) (.ref b) H Q :=
  ⟨_, _, dp_ints h1, dp_ints h2, shaped_ints xs, shaped_ints ys, by rw [eqv_ints]; exact q⟩
theorem ask_neL {K : PySem.W.Frag} {H : Hp} {a b : Addr} {xs ys : List Int} {Q : VK} (h1 : SqL K H a (xs.map V.int)) (h2 : SqL K H b (ys.map V.int)) (q : Q (.bl (!decide (xs = ys))) H) : rNeD K (.ref a) (.ref b) H Q :=
  ⟨_, _, dp_ints h1, dp_ints h2, shaped_ints xs, shaped_ints ys, by rw [eqv_ints]; exact q⟩
theorem ask_eqT {K : PySem.W.Frag} {H : Hp} {a b : Addr} {xs ys : List Int} {Q : VK} (h1 : SqT K H a (xs.map V.int)) (h2 : SqT K H b (ys.map V.int)) (q : Q (.bl (decide (xs = ys))) H) : rEqD K (.ref a) (.ref b) H Q :=
  ⟨_, _, dp_tup h1, dp_tup h2, shaped_tup xs, shaped_tup ys, by rw [eqv_tup]; exact q⟩
theorem pair_dec {a b c d : Int} : decide ([a, b] = [c, d]) = decide ((a, b) = (c, d)) := by
  by_cases h : (a, b) = (c, d)
  · cases h; rw [decide_eq_true rfl, decide_eq_true rfl]
  · rw [decide_eq_false h, decide_eq_false fun z => h (by injection z with z1 z2; injection z2 with z2 _; rw [z1, z2])]
/-- x in a list of ints -/
theorem inV_ints {m : Int} : ∀ {xs : List Int}, inV (.int m) (xs.map V.int) = decide (m ∈ xs)
  | [] => rfl
  | x :: xs => by
    have ih := inV_ints (m := m) (xs := xs)
    show (eqV (.int x) (.int m) || inV (.int m) (xs.map V.int)) = _
    rw [ih]
    have e : eqV (.int x) (.int m) = decide (x = m) := by
      by_cases c : x = m
      · subst c; simp [eqV]
      · simp [eqV, c]
    rw [e]
    by_cases c : x = m
    · subst c; simp
    · have c' : ¬ m = x := fun z => c z.symm
      simp [c, c']
theorem flat_ints : ∀ {xs : List Int}, (xs.map V.int).all flatV = true
  | [] => rfl
  | x :: xs => by
    show (flatV (.int x) && (xs.map V.int).all flatV) = true
    rw [flat_ints]; rfl
theorem ask_in {K : PySem.W.Frag} {H : Hp} {a : Addr} {xs : List Int} {m : Int} {Q : VK} (h : SqL K H a (xs.map V.int)) (q : Q (.bl (decide (m ∈ xs))) H) : rIn K false (.int m) (.ref a) H Q :=
  ⟨a, _, rfl, .inl h, rfl, flat_ints, by
    show Q (.bl (inV (.int m) (xs.map V.int))) H
    rw [inV_ints]; exact q⟩
theorem map_cat {K : PySem.W.Frag} {H : Hp} {a : Addr} {xs ys : List Int} (h : SqL K H a (xs.map V.int ++ ys.map V.int)) : SqL K H a ((xs ++ ys).map V.int) := by rw [List.map_append]; exact h
end Jg

/-! set(xs) of a list of ints -/
namespace Jg
open PySem PySem.Spec PyProof.Rows L2
/-- a set just made -/
def mtSet (w : World) : Obj := { cls := .type "set", dict := none, data := .set #[] 0 (.fresh 0 0 (!w.params.followText "set-order")) }
section
variable {P : Program} {w : World} {A : Around} {E : Value → Shared → Prop} {s : Shared}
/-- what stands behind set(xs): a new set of the ints -/
abbrev SetDone (w : World) (s : Shared) (ns : List Int) (s₂ : Shared) : Prop :=
  ∃ h' tk c, s₂ = { s with heap := h', toks := tk } ∧ SetR w h' s.heap.objs.size (fun j => decide (j ∈ ns)) c ∧ c ≤ ns.length ∧ ∀ b o, s.heap.get? b = some o → h'.get? b = some o
theorem mt_at (w : World) (h : Heap) : (h.push (mtSet w)).get? h.objs.size = some (mtSet w) := Heap.get?_push_size _ rfl
set_option maxHeartbeats 8000000 in
theorem set_of_list {l : Addr} {items : Array Value} (ns : List Int) {Q : Value → Shared → Prop} (hh : A.handled = none) (hl : s.heap.IsList l items) (hit : IntsAre items.toList ns) (hb : ns.length + 1 < scanBound)
    (h : ∀ s₂, SetDone w s ns s₂ → Q (.ref s.heap.objs.size) s₂) : wpAny (model P w) A (call (.type "set") [.ref l]) Q E s := by
  have hsz : items.size = ns.length := (Array.length_toList (xs := items)).symm.trans (IntsAre.length hit)
  obtain ⟨c, tl, hmro⟩ := F.called_set.mro
  have m1 := F.called_set.made
  have m2 := F.called_set.sub
  have m3 := F.called_set.notType
  have m4 := F.called_set.canCreate
  have m5 := F.typeCall_set_1 (.ref l)
  refine wpAny_call (codeAny_of_tree (show wpAny _ _ (callAny (.type "set") _) _ _ _ from wpAny_pure ⟨Code.quiet_builtin _ (by decide +kernel), codeAny_builtin F.entry_type_call ?_⟩))
  rw [Around.under_plain (weight_type_call_type "set" [.ref l] []) rfl]
  repeat (any_goals (first | assumption | wp_step))
  refine codeAny_mono (code_set_led1 (.ref l) (E := E) (Q₁ := fun obj s₁ => obj = .ref s.heap.objs.size ∧ s₁ = { s with heap := s.heap.push (mtSet w) }) ⟨rfl, rfl⟩) fun r s₁ hr => ?_
  match r, hr with
  | .error e, hr => exact hr
  | .ok (.ret obj), hr =>
    obtain ⟨rfl, rfl⟩ := hr
    have new := mt_at w s.heap
    have ty : Shared.TypeIs { s with heap := s.heap.push (mtSet w) } (.ref s.heap.objs.size) "set" := ⟨_, new, rfl⟩
    have m6 := F.called_set.init.lookup
    have m7 := F.called_set.init.bind (.ref s.heap.objs.size)
    repeat (any_goals (first | assumption | wp_step))
    refine codeAny_mono (codeAny_call_builtin (R := wants (fun r s₂ => r = .none ∧ SetDone w s ns s₂) E) F.called_set.init.plain F.entry_set_init (check_set_init_1 ty ?_)) fun r₂ s₂ hr₂ => ?_
    · obtain ⟨⟨ocls, odict, odata, oslots⟩, hol, hcl, nl, hdl⟩ := hl
      simp only at hcl hdl
      subst hcl; subst hdl
      have lt : l < s.heap.objs.size := Heap.lt_size hol
      have old : (s.heap.push (mtSet w)).get? l = some { cls := .type "list", dict := odict, data := .seq items nl, slots := oslots } := Heap.get?_push_of_some _ hol
      have il : (s.heap.push (mtSet w)).IsList l items := ⟨_, old, rfl, nl, rfl⟩
      have n1 := F.sub_list_set
      have n2 := F.sub_list_frozenset
      have n3 : (Value.type "list" == Value.type "dict") = false := by decide
      have sz : (s.heap.push (mtSet w)).objs.size = s.heap.objs.size + 1 := Heap.size_push ..
      unfold Builtin.«set.__init__» noKeywords Builtin.Frozenset.updateFrom
      generalize hPI : pyIter = PI
      wp_walk
      subst hPI
      refine wpAny_pyIter_list il (wpAny_bind (wpAny_runValue ?_))
      have apart : l ≠ (s.heap.push (mtSet w)).objs.size := by rw [sz]; exact Nat.ne_of_lt (Nat.lt_succ_of_lt lt)
      refine set_update_ints (P := P) (w := w) ((Walks.list (show A.in1.in1.in1.handled = none by simp [hh]) _ l apart items).toS) s.heap.objs.size ?_ ns hsz hb (fun i v hv => ?_) (items.size - 0) 0 _ (by omega) (Nat.zero_le _)
        ⟨⟨_, Heap.get?_push_size _ rfl, rfl, rfl⟩, il.push _⟩ ⟨0, Nat.le_refl 0, setR_new_at (Heap.get?_push_of_some _ new)⟩ fun s' c' hm hc' hS' => ?_
      · rw [sz]
        intro z
        rcases List.mem_cons.mp z with z | z
        · exact absurd z (Nat.ne_of_lt (Nat.lt_succ_self _))
        · rcases List.mem_cons.mp z with z | z
          · exact absurd z (Nat.ne_of_gt lt)
          · cases z
      · have hi : i < ns.length := by rw [← hsz]; exact (Array.getElem?_eq_some_iff.mp hv).1
        obtain ⟨t, e⟩ := PyProof.Rows.IntsAre.int_at hit i v (by rw [Array.getElem?_toList]; exact hv)
        exact ⟨ns[i], t, List.getElem?_eq_getElem hi, by rw [e, List.getD_eq_getElem?_getD, List.getElem?_eq_getElem hi] <;> rfl⟩
      · obtain ⟨h', g2, d', tk', os'⟩ := s'
        obtain rfl : g2 = s.gens := hm.gens
        obtain rfl : d' = s.drawn := hm.drawn
        obtain rfl : os' = s.os := hm.os
        refine wpAny_pure (show wpAny _ _ (ret Value.none) _ _ _ from wpAny_pure ⟨rfl, h', tk', c', rfl, hS', by omega, fun b o e => ?_⟩)
        have lb : b < s.heap.objs.size := Heap.lt_size e
        refine hm.heap b o (fun z => ?_) (Heap.get?_push_of_some _ (Heap.get?_push_of_some _ e))
        rcases List.mem_cons.mp z with z | z
        · exact absurd z (Nat.ne_of_lt lb)
        · rcases List.mem_cons.mp z with z | z
          · rw [sz] at z
            exact absurd z (Nat.ne_of_lt (Nat.lt_succ_of_lt lb))
          · cases z
    · match r₂, hr₂ with
      | .error e, hr₂ => exact hr₂
      | .ok (.ret r), hr₂ =>
        obtain ⟨rfl, done⟩ := hr₂
        repeat (any_goals (first | assumption | wp_step))
        exact h _ done
end
/-- set(xs) -/
def rSetL (K : PySem.W.Frag) (w : World) : List V → Hp → VK → Prop := fun xs H Q => ∃ (a : Addr) (ns : List Int), xs = [.ref a] ∧ SqL K H a (ns.map V.int) ∧ ns.length + 1 < scanBound ∧
  ∀ p c, H p = none → c ≤ ns.length → Q (.ref p) (upd H p (SetO w p (fun j => decide (j ∈ ns)) c))
theorem ints_of : ∀ {ns : List Int} {us : List Value}, Vals (ns.map V.int) us → IntsAre us ns
  | [], [], .nil => .nil
  | n :: _, _ :: _, .cons ⟨t, e⟩ r => by
    subst e
    exact .cons n t (ints_of r)
theorem cr_setL {X : Cx} (hc : X.calm = true) : CallR X (.type "set") (rSetL X.K X.w) := by
  intro pins s σ H xs us Q I r h
  obtain ⟨a, ns, rfl, hs, hb, q⟩ := h
  obtain ⟨u, rfl, ru⟩ := vals1 r
  cases ru
  obtain ⟨its, rv, p, hz⟩ := I.list hs
  refine set_of_list ns (I.ok.hd hc) p.isList (by simpa using ints_of rv) hb fun s₂ ⟨h', tk, c, e, R, hc', k⟩ => ?_
  subst e
  exact ⟨.ref s.heap.objs.size, _, I.laid (t' := tk) k (Nat.le_refl _) (setO_new R), rfl, q _ c (I.hok.fresh (Nat.le_refl _)) hc'⟩
end Jg

/-! try with any number of clauses, named or not, the rest of them perhaps never asked -/
namespace Jg
open PySem PySem.Spec PyProof.Rows L2

/-- an exception a of the class cls, its dict d, lies caught in the frame of X -/
def Caught (X : Cx) (pins : List (Addr × Obj)) (σ : L2.St) (H : Hp) (a : Addr) (cls : Value) (d : Option Addr) (s : Shared) : Prop :=
  ∃ (B : Heap) (s0 : Shared), Inv X pins σ H s0 ∧ (∀ b o, s0.heap.get? b = some o → b ∉ frs X.stack → B.get? b = some o) ∧ s0.heap.UpToSlots s.heap ∧
    HandSPX.FlyingZ B (X.env :: X.outer) a (Zc cls d) s.heap ∧ s.os = s0.os ∧ AllBare s.gens ∧ H a = none
section
variable {X : Cx} {pins : List (Addr × Obj)} {σ : L2.St} {H : Hp} {a : Addr} {cls : Value} {d : Option Addr} {s : Shared}
theorem Caught.inv (c : Caught X pins σ H a cls d s) : Inv X pins σ H s :=
  let ⟨_, _, J, keep, up, fly, os, bare, _⟩ := c
  J.landed keep fly.1 up os bare
theorem Caught.hole (c : Caught X pins σ H a cls d s) : H a = none :=
  let ⟨_, _, _, _, _, _, _, _, z⟩ := c
  z
/-- the place of the exception, and what stands there -/
theorem Caught.place (c : Caught X pins σ H a cls d s) (fr : X.env.frame = some X.env.locals) :
    ∃ oe vs, s.heap.get? a = some oe ∧ Zc cls d oe ∧ oe.data = .fields vs ∧ a ≠ X.env.locals ∧ a ∉ X.fs := by
  obtain ⟨B, s0, J, keep, up, fly, os, bare, z⟩ := c
  obtain ⟨oe, vs, at_, zc, dt⟩ := fly.there
  have out : a ∉ frs (X.env :: X.outer) := fun m => by
    obtain ⟨_, o, at2, no⟩ := fly.2.2.1.mem m
    cases at_.symm.trans at2
    exact no vs dt
  refine ⟨oe, vs, at_, zc, dt, fun e => out ?_, fun m => out ?_⟩
  · rw [e]
    exact List.mem_filterMap.mpr ⟨_, List.mem_cons_self, fr⟩
  · obtain ⟨e, me, fe⟩ := List.mem_filterMap.mp m
    exact List.mem_filterMap.mpr ⟨e, List.mem_cons_of_mem _ me, fe⟩
theorem Caught.again {M : Model} {A : Around} {E : Value → Shared → Prop} {Q : Unit → Shared → Prop} (c : Caught X pins σ H a cls d s) (q : ∀ s', Caught X pins σ H a cls d s' → Q () s') :
    wpAny M A (setFlight (.ref a) .none) Q E s := by
  obtain ⟨B, s0, J, keep, up, fly, os, bare, z⟩ := c
  exact HandSPX.lands_againZ fly fun h' fly' up' => q _ ⟨B, s0, J, keep, up.trans up', fly', os, bare, z⟩
/-- no clause took it: it goes on -/
theorem Caught.goes {W : WX} {Q : Flow → Shared → Prop} {pos : String} (ok : X.Ok) (hs : X.stack = X.env :: X.outer) (fr : X.env.frame = some X.env.locals) (c : Caught X pins σ H a cls d s) (tk : Takes X W) (w : W cls d σ H) :
    wpAny (model X.prog X.w) X.A (passOn pos (.ref a) X.env) Q X.xe s := by
  obtain ⟨B, s0, J, keep, up, fly, os, bare, z⟩ := c
  obtain ⟨_, _, _, oe, vs, T, oT, ts, at_, _, dt, one, _⟩ := id fly
  have last : wpAny (model X.prog X.w) X.A (setFlight (.ref a) X.env.frame) (fun _ s4 => wpAny (model X.prog X.w) X.A (throw (.ref a) : Sem Flow) Q X.xe s4) X.xe s := by
    rw [fr]
    refine HandSPX.setFlight_upZ fly fun h4 held up4 => wpAny_throw (tk _ _ ⟨a, B, s0, pins, σ, H, cls, d, rfl, J, keep, up.trans up4, .inr (.inr ?_), z, os, bare, w⟩)
    rw [hs]
    exact held
  unfold PySem.passOn
  refine wpAny_bind (wpAny_field at_ dt one ?_)
  rw [if_neg (by simp : ¬ ((Value.ref T == Value.none) = true))]
  first
    | exact wpAny_bind (wpAny_pure (wpAny_bind last))
    | exact wpAny_bind last
end

/-- the slot i is free behind what the ends say -/
def gone (i : Nat) (D : Ends) : Ends := { nx := fun σ H => D.nx (σ.set i .none) H, rt := D.rt, bk := fun σ H => D.bk (σ.set i .none) H, ct := fun σ H => D.ct (σ.set i .none) H }
/-- what a row of clauses wishes of the exception -/
inductive Hds (X : Cx) (Wout : WX) : List ExceptHandler → (Ends → WX) → Prop
  | out : Hds X Wout [] fun _ => Wout
  | cut {l : List ExceptHandler} : Hds X Wout l fun _ _ _ _ _ => False
  | named {x n : Str} {c : Value} {i : Nat} {ts : Addr → Value → Option Addr → TS} {b : Stmt} {suite : List Stmt} {np p : Pos} {l : List ExceptHandler} {w : Ends → WX} (hi : X.N[i]? = some n) (hl : X.env.kindOf n = some .local) (hc : Names X x c)
      (body : ∀ (a : Addr) (oe : Obj) (cls : Value) (d : Option Addr) (pn : List (Addr × Obj)), Zc cls d oe → (∃ vs, oe.data = .fields vs) → PSs (X.suite a ((a, oe) :: pn)) (b :: suite) (ts a cls d)) (r : Hds X Wout l w) :
      Hds X Wout (.ExceptHandler (some (.Name x np)) (some n) (b :: suite) p :: l) fun D cls d σ H =>
        ∃ k, PySem.W.exmOne X.K cls c = some k ∧ (k = true → ∀ a, H a = .none → ts a cls d (gone i D) (σ.set i (some (.ref a))) H) ∧ (k = false → w D cls d σ H)
  | plain {x : Str} {c : Value} {ts : Addr → Value → Option Addr → TS} {b : Stmt} {suite : List Stmt} {np p : Pos} {l : List ExceptHandler} {w : Ends → WX} (hc : Names X x c)
      (body : ∀ (a : Addr) (oe : Obj) (cls : Value) (d : Option Addr) (pn : List (Addr × Obj)), Zc cls d oe → (∃ vs, oe.data = .fields vs) → PSs (X.suite a ((a, oe) :: pn)) (b :: suite) (ts a cls d)) (r : Hds X Wout l w) :
      Hds X Wout (.ExceptHandler (some (.Name x np)) none (b :: suite) p :: l) fun D cls d σ H =>
        ∃ k, PySem.W.exmOne X.K cls c = some k ∧ (k = true → ∀ a, H a = .none → ts a cls d D σ H) ∧ (k = false → w D cls d σ H)
section
variable {X : Cx} {Wout : WX}
/-- the test of a clause -/
theorem Caught.test {pins : List (Addr × Obj)} {σ : L2.St} {H : Hp} {a : Addr} {cls c : Value} {d : Option Addr} {s : Shared} {x : Str} {k : Bool} {np p : Pos} {R : Result → Shared → Prop} (t : Caught X pins σ H a cls d s) (fr : X.env.frame = some X.env.locals)
    (hc : Names X x c) (e : PySem.W.exmOne X.K cls c = some k) (q : R (.ok (if k then .brk else .next)) s) :
    codeAny (model X.prog X.w) (X.A.mark (some (.ref a))) (.handlers (.ref a) [.ExceptHandler (some (.Name x np)) none [] p] X.env) R s := by
  obtain ⟨oe, vs, at_, zc, dt, nl, nf⟩ := t.place fr
  have J := t.inv.suite at_ dt t.hole nl nf
  have ty : PySem.W.Looks (model X.prog X.w) s.heap (typeOf (.ref a)) cls := fun A Q E s' keep z => wpAny_typeOf_ref (keep _ _ at_) (by rw [zc.1]; exact z)
  have hit := PySem.W.exm_one (M := model X.prog X.w) t.inv.kIn ty e
  refine codeAny_handlers_test ?_
  obtain ⟨hg, nd, m | ⟨m, v, nn⟩⟩ := hc
  · exact ld_glob J hg m (hit.here q) nd
  · exact ld_blt J hg m v (hit.here q) nn nd
theorem Hds.run {hds : List ExceptHandler} {w : Ends → WX} (hd : Hds X Wout hds w) (hs : X.stack = X.env :: X.outer) (fr : X.env.frame = some X.env.locals) (hN : X.N.Nodup) (tk : Takes X Wout)
    {pins : List (Addr × Obj)} {σ : L2.St} {H : Hp} {a : Addr} {cls : Value} {d : Option Addr} {s : Shared} {D : Ends} (t : Caught X pins σ H a cls d s) (h : w D cls d σ H) :
    wpAny (model X.prog X.w) X.A (handleBy (.ref a) X.env hds) (SP X pins D) X.xe s := by
  have ok := t.inv.ok
  induction hd with
  | out => exact wpAny_handleBy_nil (t.goes ok hs fr tk h)
  | cut => exact h.elim
  | @named x n c i ts b suite np p l w hi hl hc body r ih =>
    obtain ⟨k, e, yes, no⟩ := h
    refine wpAny_handleBy_cons ?_ (fun z => nomatch z)
    refine t.test fr hc e ?_
    cases k with
    | false => exact ih (no rfl)
    | true =>
      refine codeAny_handlers_suite_as (t.again fun s2 t2 => ?_)
      obtain ⟨oe, vs, at_, zc, dt, nl, nf⟩ := t2.place fr
      have J := t2.inv.suite at_ dt t2.hole nl nf
      refine store_ok (X := X.suite a ((a, oe) :: (X.pn ++ pins))) (v := .ref a) J hN hi (.inl hl) rfl (fun s3 J3 => ?_) (.inr hl)
      refine wpAny_mono ((body a oe cls d _ zc ⟨vs, dt⟩).run [] s3 _ H _ J3 (yes rfl a t2.hole)) (fun f s4 z => ?_) fun _ _ z => z.elim
      have off : ∀ {σ4 : L2.St} {H4 : Hp} {Q : Shared → Prop}, Inv (X.suite a ((a, oe) :: (X.pn ++ pins))) [] σ4 H4 s4 → (∀ s5, Inv X pins (σ4.set i .none) H4 s5 → Q s5) →
          wpAny (model X.prog X.w) X.A (do bindName X.env n .none; unbindBehindTheSuite X.env n p) (fun _ s5 => Q s5) X.xe s4 := fun J4 q => gone_ok (J4.unsuite ok) hN hi hl q
      match f, z with
      | .next, ⟨_, _, J4, q⟩ => exact off J4 fun s5 J5 => ⟨_, _, J5, q⟩
      | .brk, ⟨_, _, J4, q⟩ => exact off J4 fun s5 J5 => ⟨_, _, J5, q⟩
      | .cont, ⟨_, _, J4, q⟩ => exact off J4 fun s5 J5 => ⟨_, _, J5, q⟩
      | .ret u, ⟨_, _, _, J4, rv, q⟩ => exact off J4 fun s5 J5 => ⟨_, _, _, J5, rv, q⟩
  | @plain x c ts b suite np p l w hc body r ih =>
    obtain ⟨k, e, yes, no⟩ := h
    refine wpAny_handleBy_cons ?_ (fun z => nomatch z)
    refine t.test fr hc e ?_
    cases k with
    | false => exact ih (no rfl)
    | true =>
      refine codeAny_handlers_suite (t.again fun s2 t2 => ?_)
      obtain ⟨oe, vs, at_, zc, dt, nl, nf⟩ := t2.place fr
      have J := t2.inv.suite at_ dt t2.hole nl nf
      refine wpAny_mono ((body a oe cls d _ zc ⟨vs, dt⟩).run [] s2 _ H _ J (yes rfl a t2.hole)) (fun f s4 z => ?_) fun _ _ z => z.elim
      match f, z with
      | .next, ⟨_, _, J4, q⟩ => exact ⟨_, _, J4.unsuite ok, q⟩
      | .brk, ⟨_, _, J4, q⟩ => exact ⟨_, _, J4.unsuite ok, q⟩
      | .cont, ⟨_, _, J4, q⟩ => exact ⟨_, _, J4.unsuite ok, q⟩
      | .ret u, ⟨_, _, _, J4, rv, q⟩ => exact ⟨_, _, _, J4.unsuite ok, rv, q⟩
/-- try: body / clauses -/
theorem ps_try {body : List Stmt} {h₀ : ExceptHandler} {hds : List ExceptHandler} {w : Ends → WX} {pos : Pos} {tb : WX → TS} (hd : Hds X Wout (h₀ :: hds) w) (hs : X.stack = X.env :: X.outer) (fr : X.env.frame = some X.env.locals) (hN : X.N.Nodup) (tk : Takes X Wout)
    (hb : ∀ (W : WX) (pn : List (Addr × Obj)) (xe : Value → Shared → Prop), Takes (X.tr pn xe) W → PassesOwn (model X.prog X.w) X.A X.env xe → PSs (X.tr pn xe) body (tb W)) :
    PS X (.Try body (h₀ :: hds) [] [] pos) fun D σ H => tb (w D) D σ H := by
  refine ⟨fun pins s σ H D I h => wpAny_Try_except ?_⟩
  have ok := I.ok
  let xe : Value → Shared → Prop := fun e s1 => wpAny (model X.prog X.w) X.A (noteFrame e X.env) (fun _ s2 => wpAny (model X.prog X.w) X.A (setFlight e .none) (fun _ s3 => wpAny (model X.prog X.w) X.A (handleBy e X.env (h₀ :: hds)) (SP X pins D) X.xe s3) X.xe s2) X.xe s1
  have tkb : Takes (X.tr (X.pn ++ pins) xe) (w D) := by
    rintro u s1 ⟨a, B, s0, pins', σ1, H1, cls, d, rfl, J', keep, up, sky, z, os, bare, wd⟩
    have J : Inv X pins σ1 H1 s0 := J'.ofTry ok
    have fl : Sky B (X.env :: X.outer) a (Zc cls d) X.env.locals s1.heap := by rw [← hs]; exact sky
    show wpAny (model X.prog X.w) X.A (noteFrame (.ref a) X.env) _ _ _
    refine Sky.land Zc.steady (by rw [ok.frames, hs]) fr fl fun h3 fly up3 => ?_
    exact hd.run hs fr hN tk ⟨B, s0, J, keep, up.trans up3, fly, os, bare, z⟩ wd
  refine wpAny_mono ((hb (w D) (X.pn ++ pins) xe tkb PassesOwn.looking).run [] s σ H D (I.toTry xe) h) (fun f s1 z => ?_) fun _ _ z => z
  match f, z with
  | .next, ⟨_, _, J, q⟩ => exact wpAny_execs_nil ⟨_, _, J.ofTry ok, q⟩
  | .brk, ⟨_, _, J, q⟩ => exact ⟨_, _, J.ofTry ok, q⟩
  | .cont, ⟨_, _, J, q⟩ => exact ⟨_, _, J.ofTry ok, q⟩
  | .ret u, ⟨_, _, _, J, rv, q⟩ => exact ⟨_, _, _, J.ofTry ok, rv, q⟩
end

/-! ### what may raise: called at the slots as they stand -/
/-- C(..) whose __init__ may let an exception out -/
def tMakeS (C : Addr) (sp : Sp) (E : L2.St → XK) (t : TA) : TE := fun σ H Q => t σ H fun vs H1 => ∀ x dx, H1 x = none → H1 dx = none → dx ≠ x →
  sp (.ref x :: vs) (upd (upd H1 dx (.own x)) x (.ins C dx [])) (fun v H2 => v = .non ∧ Q (.ref x) H2) (E σ)
section
variable {X : Cx} {k j : Nat} {C : Addr} {x m : Str} {sp : Sp} {W : WX} {p pos : Pos} {e : Expr} {es : List Expr} {t : TA}
theorem pe_cS (c : Cal X.prog X.w X.K X.mg X.base (L2.CX X.prog X.w) k x sp) (tk : Takes X W) (hr : Room j X.A) (hk : k ≤ j) (hg : Gl X x) (ha : PA X (e :: es) t)
    (hdb : (x == ("__debug__" : Str)) = false := by decide) (he : starEach (e :: es) X.env = (false, eval e X.env) :: starEach es X.env := by rfl) (hpl : (backTo pos (starEach es X.env)).any (·.1) = false := by rfl) :
    PE X (.Call (.Name x p) (e :: es) [] pos) (tCallS sp (WE W) t) := by
  obtain ⟨f, fd, ps, F, hm, kp, b⟩ := c.ex
  exact pe_callS F (hr.mono hk) hg hm kp b (passAt tk) ha hdb he hpl
theorem pe_mkS (c : Mak X.prog X.w X.K X.mg X.base (L2.CX X.prog X.w) k x C sp) (tk : Takes X W) (hr : Room j X.A) (hk : k + 1 ≤ j) (hg : Gl X x) (ha : PA X (e :: es) t)
    (hdb : (x == ("__debug__" : Str)) = false := by decide) (he : starEach (e :: es) X.env = (false, eval e X.env) :: starEach es X.env := by rfl) (hpl : (backTo pos (starEach es X.env)).any (·.1) = false := by rfl) :
    PE X (.Call (.Name x p) (e :: es) [] pos) (tMakeS C sp (WE W) t) := by
  obtain ⟨f, fd, ps, F, ini, fn, kp, b⟩ := c.init.ex
  refine ⟨fun pins s σ H Q I h => wpAny_Call_Name_kw (ld_glob I hg c.mg_ (PySem.W.callWith_K (h₀ := X.base) I.ok.mod.kin c.kp (thn (ha.run pos pins s σ H _ I h) fun us s1 ⟨vs, H1, J, r, q⟩ => ⟨J.kIn, ?_⟩) he hpl) hdb)⟩
  have q1 := q (s1.heap.objs.size + 1) s1.heap.objs.size (J.hok.fresh (Nat.le_succ _)) (J.hok.fresh (Nat.le_refl _)) (Nat.ne_of_lt (Nat.lt_succ_self _))
  have J2 := Inv.made (C := C) J
  have r2 : Vals (V.ref (s1.heap.objs.size + 1) :: vs) (Value.ref (s1.heap.objs.size + 1) :: us) := .cons rfl r
  have ln : (Value.ref (s1.heap.objs.size + 1) :: us).length = ps.length := r2.length.symm.trans (F.len _ _ _ _ q1)
  have bd := b _ (Value.ref (s1.heap.objs.size + 1) :: us) J2.kIn (by rw [List.append_nil]; exact ln)
  rw [List.append_nil] at bd
  have run := F.run _ X.stack _ _ ⟨Value.ref (s1.heap.objs.size + 1) :: us, []⟩ _ _ _ (WE W σ) ((hr.mono hk).make C us []) (J2.env0.make C us []) bd r2 q1
  show wpAny (model X.prog X.w) X.A (call (.ref C) us) (EP X pins σ Q) X.xe s1
  refine wpAny_call (make_map (f := f) J.kIn c.mks ini (beq_iff_eq.mp fn) (codeAny_mono run fun o s2 z => ?_))
  match o, z with
  | .error err, z => exact passAt tk σ pins _ _ err s2 J2 z
  | .ok (.ret u), z =>
    obtain ⟨v, H2, J3, rv, ev, q3⟩ := J2.after z
    subst ev
    exact ⟨rv, V.ref (s1.heap.objs.size + 1), H2, J3, rfl, q3⟩
end
section
variable {P : Program} {w : World} {K : PySem.W.Frag} {mg : Str → Option Value} {base : Heap} {k : Nat} {C : Addr} {x m qual : Str} {st : Stmt} {N ps : List Str} {sp : Sp}
/-- what a body that may raise must show -/
def BodyX (P : Program) (w : World) (K : PySem.W.Frag) (mg : Str → Option Value) (base : Heap) (N : List Str) (qual : Str) (st : Stmt) (f : Addr) (k : Nat) (sp : Sp) : Prop :=
  ∀ (cdv : Value) (A : Around) (outer : List Env) (s : Shared) (H : Hp) (vs : List V) (Q : VK) (E : XK), Room k (A.deeper (envOfC qual (defScope st) s.heap.objs.size f cdv)) → sp vs H Q E →
      ∃ t, PSs (cxOf (L2.CX P w) P w K mg base N qual (defScope st) f cdv A outer s H E) (defBody st) t ∧ t { nx := fun _ H' => Q .non H', rt := Q } (start N vs) H
theorem DefK.calX (D : DefK K mg x st) (S : FnScope N ps (defScope st)) (b : BindOk x x st ps) (len : ∀ vs H Q E, sp vs H Q E → vs.length = ps.length) (hb : ∀ f, BodyX P w K mg base N x st f k sp) : Cal P w K mg base (L2.CX P w) (k + 1) x sp :=
  let ⟨f, fd, F, m⟩ := D.ex
  ⟨f, fd, ps, F.okX S len (hb f), m, F.kp, F.binds b⟩
theorem MetK.metX (D : MetK K C m qual st) (S : FnScope N ps (defScope st)) (b : BindOk m qual st ps) (len : ∀ vs H Q E, sp vs H Q E → vs.length = ps.length) (hb : ∀ f, BodyX P w K mg base N qual st f k sp) : Met P w K mg base (L2.CX P w) (k + 1) C m sp :=
  let ⟨f, fd, F, a, i⟩ := D.ex
  ⟨f, fd, ps, F.okX S len (hb f), a, i, F.kp, F.binds b⟩
end
/-! ### an exception class of the program with an own __init__ -/
structure Exn (P : Program) (w : World) (K : PySem.W.Frag) (mg : Str → Option Value) (base : Heap) (k : Nat) (x : Str) (C : Addr) (sp : Sp) : Prop where
  mg_ : mg x = some (.ref C)
  cls : OexC K C
  init : ∃ fI fd ps, FnOk P w K mg base CX0 k fI fd ps sp ∧ PySem.W.findIn K (.ref C) "__init__" = some (some (.ref fI)) ∧ PySem.W.typeIn K (.ref fI) = some (.type "function") ∧ Binds K fd ps []
theorem pmk_x {X : Cx} {k j : Nat} {C : Addr} {x : Str} {sp : Sp} {p pos : Pos} {e : Expr} {es : List Expr} {t : TA} (c : Exn X.prog X.w X.K X.mg X.base k x C sp) (hr : Room j X.A) (hk : k + 1 ≤ j) (hg : Gl X x) (ha : PA X (e :: es) t)
    (hdb : (x == ("__debug__" : Str)) = false := by decide) (he : starEach (e :: es) X.env = (false, eval e X.env) :: starEach es X.env := by rfl) (hpl : (backTo pos (starEach es X.env)).any (·.1) = false := by rfl) :
    PMk X (.Call (.Name x p) (e :: es) [] pos) (tMkO C sp [] t) := by
  obtain ⟨fI, fd, ps, F, a, ty, b⟩ := c.init
  exact pmk_oex c.cls a ty F (hr.mono hk) b .nil pass0 hg c.mg_ ha hdb he hpl

/-- __init__ that keeps its one argument in the field f -/
def spX (C : Addr) (f : Str) : Sp := fun vs H Q _ => ∃ a y, vs = [.ref a, y] ∧ H a = some (exo a C none) ∧ ∀ dx, H dx = none → dx ≠ a → Q .non (upd (upd H dx (exd dx [(f, y)])) a (exo a C (some dx)))
/-- .. called: the exception's dict is new, all else stays -/
theorem x_read {C : Addr} {f : Str} {y : V} {H : Hp} {Q : XK} (h : ∀ d, H d = none → Q (.ref C) (some d) (upd H d (.xd [(f, y)]))) : ([y] : List V).length ≤ 1000 ∧ ∀ a, H a = none → spX C f (.ref a :: ([y] ++ [])) (upd H a (exo a C none))
    (fun v H2 => v = .non ∧ ∃ (d : Addr) (fs : List (Str × V)), H2 a = some (exo a C (some d)) ∧ H2 d = some (exd d fs) ∧ H d = none ∧ Q (.ref C) (some d) (upd (del H2 a) d (.xd fs))) fun _ _ _ => False := by
  refine ⟨by show 1 ≤ 1000; decide, fun a na => ⟨a, y, rfl, upd_same, fun dx nd ne => ⟨rfl, dx, [(f, y)], upd_same, ?_, ?_, ?_⟩⟩⟩
  · rw [upd_ne ne, upd_same]
  · rw [upd_ne ne] at nd
    exact nd
  · have nd' : H dx = none := by rw [upd_ne ne] at nd; exact nd
    have e : upd (del (upd (upd (upd H a (exo a C none)) dx (exd dx [(f, y)])) a (exo a C (some dx))) a) dx (.xd [(f, y)]) = upd H dx (.xd [(f, y)]) := by
      funext b
      by_cases c1 : b = dx
      · rw [c1, upd_same, upd_same]
      · rw [upd_ne c1, upd_ne c1]
        by_cases c2 : b = a
        · rw [c2, del_same, na]
        · rw [del_ne c2, upd_ne c2, upd_ne c1, upd_ne c2]
    rw [e]
    exact h dx nd'
/-- what the class of a caught exception must say, for its fields and for isinstance -/
structure ExcK (K : PySem.W.Frag) (C : Addr) : Prop where
  xf : XfC K C
  ha : PySem.W.findIn K (.ref C) "__class__" = some (some (.builtin "object.__class__"))
  hn : PySem.W.specialIn K (.builtin "object.__class__") "__get__" = some (some (.builtin "getset_descriptor.__get__"))
  ht : PySem.W.takesIn K (.builtin "object.__class__") = some true
  hm : PySem.W.mroIn K C (.type "object") = some true
section
variable {X : Cx} {a C : Addr} {oe : Obj} {cls : Value} {d : Option Addr} {pn : List (Addr × Obj)}
/-- isinstance(e, c) of a caught exception with a dict -/
def rIsX (K : PySem.W.Frag) (cls : Value) (C a : Addr) (d : Option Addr) : List V → Hp → VK → Prop := fun xs H Q => ∃ (c : V) (cv : Value) (b : Bool) (dd : Addr) (fs : List (Str × V)), xs = [.ref a, c] ∧ cls = .ref C ∧ d = some dd ∧ H dd = some (.xd fs) ∧ (∀ u, RelV c u → u = cv) ∧ PySem.W.kitOne K (.ref C) cv = some b ∧ Q (.bl b) H
theorem exc_inst {pins : List (Addr × Obj)} {σ : L2.St} {H : Hp} {s : Shared} {dd : Addr} {fs : List (Str × V)} (I : Inv (X.suite a ((a, oe) :: pn)) pins σ H s) (hz : Zc (.ref C) (some dd) oe) (hf : ∃ vs, oe.data = .fields vs) (e : H dd = some (.xd fs)) : ∃ od, PySem.W.InstAt s.heap a oe C (some od) := by
  obtain ⟨mA, ns, _⟩ := I.hok dd _ e
  obtain ⟨od, at2, _⟩ := lookIn_ns ns
  obtain ⟨at1, _⟩ := I.pin (a, oe) (List.mem_append_left _ List.mem_cons_self)
  obtain ⟨vs, dt⟩ := hf
  exact ⟨od, at1, hz.1, by unfold PySem.W.notCls; rw [dt] <;> rfl, by rw [hz.2]; exact at2⟩
theorem call_isX (T : ExcK X.K C) (hz : Zc cls d oe) (hf : ∃ vs, oe.data = .fields vs) : CallR (X.suite a ((a, oe) :: pn)) (.builtin "isinstance") (rIsX X.K cls C a d) := by
  intro pins s σ H xs us Q I r h
  obtain ⟨c, cv, b, dd, fs, rfl, rfl, rfl, e, hc, k, q⟩ := h
  cases r with
  | cons r1 r2 =>
    cases r2 with
    | cons r3 r4 =>
      cases r4
      cases r1
      have ec := hc _ r3
      subst ec
      obtain ⟨od, J⟩ := exc_inst I hz hf e
      have cl : (PySem.W.clsIn X.K C).isSome = true := by
        obtain ⟨cd, z, _⟩ := PySem.W.any_some T.xf.hdC
        rw [z]; rfl
      exact PySem.W.kia_one (PySem.W.kitx_exc cl T.xf.ga T.xf.gg T.xf.exC T.ha T.hn T.ht T.hm) I.kIn J k (fun z => nomatch z) fun tk => ⟨.bl b, H, I.kept (t' := tk) fun _ _ z => z, rfl, q⟩
end
end Jg

/-! repr of any value that is data -/
namespace Jg
open PySem PySem.Spec PyProof.Rows L2
/-- v is shown as x -/
inductive Shw (K : PySem.W.Frag) (H : Hp) : V → Str → Prop
  | non : Shw K H .non "None"
  | bl (b : Bool) : Shw K H (.bl b) (if b then "True" else "False")
  | int (i : Int) (h : i.natAbs.log2 < 1920) : Shw K H (.int i) (toString i)
  | str (x : Str) (h : (reprText x).length ≤ sizeLine) : Shw K H (.str x) (reprText x)
  | dat {a : Addr} {d : PyData} (h : Dp K H (.ref a) d) (s : d.showable = true) (dp : d.depth ≤ 40) (z : d.shown.length ≤ sizeLine) : Shw K H (.ref a) d.shown
  | dnew {a : Addr} (h : H a = some (.dK [])) : Shw K H (.ref a) (PyData.dict []).shown
theorem Shw.keep {K : PySem.W.Frag} {H H' : Hp} {v : V} {x : Str} (s : Shw K H v x) (k : ∀ d, Dp K H v d → Dp K H' v d) (k2 : ∀ a, H a = some (.dK []) → H' a = some (.dK [])) : Shw K H' v x := by
  cases s with
  | non => exact .non
  | bl b => exact .bl b
  | int i h => exact .int i h
  | str x h => exact .str x h
  | dat h s dp z => exact .dat (k _ h) s dp z
  | dnew h => exact .dnew (k2 _ h)
def rShw (K : PySem.W.Frag) : List V → Hp → VK → Prop := fun xs H Q => ∃ v x, xs = [v] ∧ Shw K H v x ∧ Q (.str x) H
section
variable {X : Cx}
theorem dk_nil {P : Program} {w : World} {H : Hp} {h : Heap} {a : Addr} (ok : HOk P w H h) (e : H a = some (.dK [])) : ∃ as, Reads h (.ref a) (.dict []) as ∧ sysModules ∉ as := by
  obtain ⟨_, na, vs, kv, o, es, n, at_, ex, dt, _, pr, _⟩ := ok a _ e
  cases kv
  have e0 : es.toList = [] := by
    revert pr
    generalize es.toList = l
    intro pr
    cases pr
    rfl
  have r1 : ReadsAll h (es.toList.map (·.key)) (([] : List (PyData × PyData)).map (·.1)) [] := by rw [e0]; exact ReadsAll.nil
  have r2 : ReadsAll h (es.toList.map (·.val)) (([] : List (PyData × PyData)).map (·.2)) [] := by rw [e0]; exact ReadsAll.nil
  refine ⟨_, Reads.dict at_ ex.1 dt r1 r2, fun m => ?_⟩
  have z : sysModules = a := by simpa using m
  rw [← z] at na
  cases na
theorem call_shw (g : X.A.guards = some []) (hu : X.A.units + 64 < cLine) : CallR X (.builtin "repr") (rShw X.K) := by
  intro pins s σ H xs us Q I r h
  obtain ⟨v, x, rfl, sh, q⟩ := h
  obtain ⟨u, rfl, ru⟩ := vals1 r
  cases sh with
  | non => cases ru; exact PySem.P.repr_of_none ⟨.str _, H, I.tok _, ⟨_, rfl⟩, q⟩
  | bl b => cases ru; exact PySem.P.repr_of_bool ⟨.str _, H, I.tok _, ⟨_, rfl⟩, q⟩
  | int i hz => obtain ⟨t, rfl⟩ := ru; exact PySem.P.repr_of_int hz ⟨.str _, H, I.tok _, ⟨_, rfl⟩, q⟩
  | str y hz => obtain ⟨t, rfl⟩ := ru; exact PySem.P.repr_of_str ⟨.str _, H, I.tok _, ⟨_, rfl⟩, q⟩ hz
  | dat hd hs dp hz =>
    cases ru
    obtain ⟨as, R⟩ := Dp.reads I _ _ (.ref _) hd rfl
    exact repr_of_reads' R hs (PyData.noDict_hsm (noDict _ _ _ _ hd)) g (by omega) (fun _ _ e => e) (fun h' u tk hk => ⟨.str _, H, I.kept hk, ⟨_, rfl⟩, q⟩) hz
  | dnew e =>
    cases ru
    obtain ⟨as, R, na⟩ := dk_nil I.hok e
    have dp : (PyData.dict []).depth ≤ 40 := by decide +kernel
    exact repr_of_reads' R (by decide +kernel) (fun _ => na) g (by omega) (fun _ _ e => e) (fun h' u tk hk => ⟨.str _, H, I.kept hk, ⟨_, rfl⟩, q⟩) (by decide +kernel)
end
end Jg

namespace Jg
open PySem PySem.Spec PyProof.Rows L2
theorem bool_in {prog : Program} {w : World} (x : Value) : MeetsIn prog w (Builtin.«bool.__new__» ⟨[.type "bool", x], []⟩) fun A R s => wpAny (model prog w) A.in1 (truthy x) (fun b s' => R (.ok (.ret (.bool b))) s') (fun e s' => R (.error e) s') s := by
  intro A R s h
  have f1 := F.conv_sub_bool
  unfold Builtin.«bool.__new__»
  repeat (any_goals (first | assumption | wp_step))
  all_goals (show wpAny (model prog w) A.in1 (truthy x) _ _ s; exact wpAny_mono h (fun b s' z => wpAny_pure z) fun _ _ z => z)
/-- bool(x) of an instance with an own __bool__ -/
def rBoolO (C : Addr) (sp : Sp) (E : XK) : List V → Hp → VK → Prop := fun xs H Q => ∃ a dx fs, xs = [.ref a] ∧ H a = some (.ins C dx fs) ∧ sp [.ref a] H (fun v H' => ∃ b, v = .bl b ∧ Q (.bl b) H') E
theorem call_boolO {X : Cx} {k j : Nat} {C : Addr} {sp : Sp} (c : Met X.prog X.w X.K X.mg X.base CX0 k C "__bool__" sp) (hr : Room j X.A) (hk : k + 2 ≤ j) : CallR X (.type "bool") (rBoolO C sp E0) := by
  intro pins s σ H xs us Q I r h
  obtain ⟨a, dx, fs, rfl, ea, q⟩ := h
  obtain rfl := Vals.ref1 r
  obtain ⟨f, fd, ps, F, ini, fn, kp, b⟩ := c.ex
  obtain ⟨mA, J, _⟩ := ins_get I.hok ea
  obtain ⟨od, J, _⟩ := J.look
  obtain ⟨m, hF⟩ := I.fr
  have rv : Vals [V.ref a] [Value.ref a] := .cons rfl .nil
  have ln : [Value.ref a].length = ps.length := rv.length.symm.trans (F.len _ _ _ _ q)
  have bd := b s [Value.ref a] I.kIn (by rw [List.append_nil]; exact ln)
  rw [List.append_nil] at bd
  have rm : Room (k + 2) X.A := hr.mono hk
  have run := F.run X.A.in1.in1 X.stack s H ⟨[Value.ref a], []⟩ _ _ _ E0 rm.in1.in1 I.env0.in1.in1 bd rv q
  refine callType_newIn PySem.F.called_bool PySem.F.newNe_bool (PySem.F.typeCall_bool_1 _) (PySem.F.newCall_bool_1 _) (fun obj => PySem.F.args_object_init_2 obj _) PySem.F.entry_bool_new (bool_in _) ?_
  refine PySem.W.truthy_K hF I.ok.mod.kin J ini fn (wpAny_call (codeAny_mono run fun o s2 z => ?_))
  match o, z with
  | .error err, z => exact z.elim
  | .ok (.ret u), z =>
    obtain ⟨v, H2, J3, rv3, bb, rfl, q3⟩ := I.after z
    cases rv3
    exact ⟨PySem.typeIs_bool _ _, .bl bb, H2, J3, rfl, q3⟩
end Jg

/-! own exceptions over any built-in one; methods and classes with keywords that may raise, at the slots as they stand -/
namespace Jg
open PySem PySem.Spec PyProof.Rows L2

/-- the class at C stands over the built-in exception B -/
structure OvB (K : PySem.W.Frag) (C : Addr) (B nid iid : String) (line : List Value) : Prop where
  fB : ExcBaseFacts B nid iid line
  sB : StoreFacts B line "object.__setattr__" "object"
  ini : PySem.W.excInitIn K C line nid = true
  ovr : PySem.W.excOver K C line = true
  hd : PySem.W.hasDictIn K C = true
  sa : PySem.W.findIn K (.ref C) "__setattr__" = some (some (.builtin "object.__setattr__"))
  exC : PySem.W.subIn K (.ref C) (.type "BaseException") = some true
  tyC : PySem.W.typeIn K (.ref C) = some (.type "type")
  kC : PySem.W.keepIn K (.ref C) = true
def Ovr (K : PySem.W.Frag) (C : Addr) : Prop := ∃ B nid iid line, OvB K C B nid iid line
theorem taker0 {K : PySem.W.Frag} {C : Addr} {f : Str} (h : PySem.W.findIn K (.ref C) f = some none) : PySem.W.takerIn K C f = some none := by
  unfold PySem.W.takerIn
  rw [h]
  rfl
section
variable {X : Cx} {pins : List (Addr × Obj)} {σ : L2.St} {H : Hp} {s : Shared} {a C : Addr} {f : Str} {y : V} {u : Value} {Q : Unit → Shared → Prop} {E : Value → Shared → Prop} {A : Around}
/-- the first field of an exception that is being made: its dict comes to be -/
theorem keep_first (T : Ovr X.K C) (I : Inv X pins σ H s) (e : H a = some (exo a C none)) (no : PySem.W.findIn X.K (.ref C) f = some none) (ry : RelV y u)
    (h : ∀ dx s', H dx = none → dx ≠ a → Inv X pins σ (upd (upd H dx (exd dx [(f, y)])) a (exo a C (some dx))) s' → Q () s') : wpAny (model X.prog X.w) A (setAttr (.ref a) f u) Q E s := by
  obtain ⟨B, nid, iid, line, T⟩ := T
  obtain ⟨t1, ho⟩ := exo_at I.hok e
  obtain ⟨cd, hc, hdd⟩ := PySem.W.any_some T.hd
  have kin := I.kIn
  obtain ⟨hp, g, d, t, os⟩ := s
  refine PySem.W.set_plain (ox := PySem.W.excObj C t1 none .none) (od := none) kin ⟨ho, rfl, rfl, trivial⟩ T.sa ?_
  refine PySem.W.osa_openX (od := none) T.sB kin ⟨ho, rfl, rfl, trivial⟩ T.ovr (taker0 no) fun b => ?_
  refine wpAny_bind (wpAny_pure (wpAny_bind (PySem.W.instanceDict_exc ho (PySem.W.looks_clsIn kin hc) hdd ?_)))
  have below : a < hp.objs.size := Heap.lt_size ho
  have apart : a ≠ hp.objs.size := Nat.ne_of_lt below
  have ho2 : (hp.push (PySem.W.dictOf [] 0)).get? a = some (PySem.W.excObj C t1 none .none) := Heap.get?_push_of_some _ ho
  show wpAny _ _ (Builtin.ObjectAttr.storeInDict hp.objs.size (.str f _) f u) _ _ _
  refine HandSPX.store_in_new ⟨_, #[], _, (Heap.get?_update_ne _ _ _ _ apart.symm).trans (Heap.get?_push_at rfl rfl), rfl, fun _ z => absurd z (by simp), fun _ => rfl⟩ fun h2 tk2 ns1 same => ?_
  -- the dict first, then the exception
  obtain ⟨od, es, ep, hod, rest⟩ := id ns1
  have ha2 : h2.get? a = some (PySem.W.excObj C t1 (some hp.objs.size) .none) := (same.2 a apart).trans (Heap.get?_update_self _ ho2 rfl)
  have stays : ∀ c o, c ≠ a → hp.get? c = some o → h2.get? c = some o := fun c o n z =>
    (same.2 c (Nat.ne_of_lt (Heap.lt_size z))).trans ((Heap.get?_update_ne _ _ _ _ n).trans (Heap.get?_push_of_some _ z))
  have nd : H hp.objs.size = none := I.hok.fresh (Nat.le_refl _)
  have fr : od.isFreed = false := (Heap.get?_some_iff.mp hod).2
  have hg : (hp.push od).get? hp.objs.size = some od := Heap.get?_push_at rfl fr
  have I1 : Inv X pins σ (upd H hp.objs.size (exd hp.objs.size [(f, y)])) ⟨hp.push od, g, d, t, os⟩ :=
    I.laid (a := hp.objs.size) (t' := t) (o := exd hp.objs.size [(f, y)]) (h' := hp.push od) (fun c o z => Heap.get?_push_of_some _ z) (Nat.le_refl _)
      (exd_ok (ns1.at fun o z => by rw [hod] at z; cases z; exact hg) (relO_put (fs := []) ry fun _ => True.intro))
  have e1 : upd H hp.objs.size (exd hp.objs.size [(f, y)]) a = some (exo a C none) := by rw [upd_ne apart]; exact e
  have I2 := I1.write (x := a) (e := a) (t' := tk2) (h' := h2) (o := exo a C (some hp.objs.size)) (by rw [e1]; exact True.intro) (.inl rfl)
    (fun c o n z => by
      by_cases k : c = hp.objs.size
      · subst k
        rw [hg] at z
        cases z
        exact hod
      · have z' : hp.get? c = some o := by
          rw [Heap.get?_push_ne _ _ _ k] at z
          exact z
        exact stays c o n z') ⟨_, ha2⟩ (exo_ok ha2)
  exact h _ _ nd apart.symm I2
end
/-- self.f = e in an exception's __init__ -/
def tKeep (K : PySem.W.Frag) (f : Str) (to te : TE) : TS := fun D σ H => te σ H fun y H1 => to σ H1 fun x H2 => ∃ a C : Addr, x = .ref a ∧ Ovr K C ∧ PySem.W.findIn K (.ref C) f = some none ∧
  H2 a = some (exo a C none) ∧ ∀ dx, H2 dx = none → dx ≠ a → D.nx σ (upd (upd H2 dx (exd dx [(f, y)])) a (exo a C (some dx)))
theorem ps_keep {X : Cx} {o e : Expr} {to te : TE} {f : Str} {p' pos : Pos} (ho : PE X o to) (he : PE X e te) (hs : swapsWith e (some (.Attribute o f p')) pos.line X.env = pure false := by rfl) : PS X (.Assign [.Attribute o f p'] e pos) (tKeep X.K f to te) :=
  ⟨fun pins s σ H D I h => plainObj_wpAny_Assign_Attribute (thn (he.run pins s σ H _ I h) fun v s1 ⟨y, H1, I1, r1, q1⟩ => thn (ho.run pins s1 σ H1 _ I1 q1) fun u s2 ⟨x, H2, I2, r2, a, C, ex, T, no, ea, q⟩ => by
    subst ex
    obtain rfl : u = Value.ref a := r2
    exact keep_first T I2 ea no r1 fun dx s' n ne J => ⟨σ, _, J, q dx n ne⟩) hs⟩
/-- an exception class of the program with an own __init__, over any built-in one -/
structure ExnB (P : Program) (w : World) (K : PySem.W.Frag) (mg : Str → Option Value) (base : Heap) (k : Nat) (x : Str) (C : Addr) (sp : Sp) : Prop where
  mg_ : mg x = some (.ref C)
  cls : Ovr K C
  init : ∃ fI fd ps, FnOk P w K mg base CX0 k fI fd ps sp ∧ PySem.W.findIn K (.ref C) "__init__" = some (some (.ref fI)) ∧ PySem.W.typeIn K (.ref fI) = some (.type "function") ∧ Binds K fd ps []
theorem pmk_b {X : Cx} {k j : Nat} {C : Addr} {x : Str} {sp : Sp} {p pos : Pos} {e : Expr} {es : List Expr} {t : TA} (c : ExnB X.prog X.w X.K X.mg X.base k x C sp) (hr : Room j X.A) (hk : k + 1 ≤ j) (hg : Gl X x) (ha : PA X (e :: es) t)
    (hdb : (x == ("__debug__" : Str)) = false := by decide) (he : starEach (e :: es) X.env = (false, eval e X.env) :: starEach es X.env := by rfl) (hpl : (backTo pos (starEach es X.env)).any (·.1) = false := by rfl) :
    PMk X (.Call (.Name x p) (e :: es) [] pos) (tMkO C sp [] t) := by
  obtain ⟨fI, fd, ps, F, at_, ty, b⟩ := c.init
  obtain ⟨B, nid, iid, line, T⟩ := c.cls
  intro pins s σ H Q I h
  refine wpAny_Call_Name_kw (ld_glob I hg c.mg_ (PySem.W.callWith_K (h₀ := X.base) I.ok.mod.kin T.kC (thn (ha.run pos pins s σ H _ I h) fun us s1 ⟨vs, H1, J, rs, short, go⟩ => ⟨J.kIn, ?_⟩) he hpl) hdb)
  obtain ⟨nm, N, qn, bs, bm, hdct, sn, sub, ab, col, dd, k0, k1, k2, k3, k5, hC, same⟩ := PySem.W.excInit_of J.kIn T.ini
  obtain ⟨hp, g, dr, tk, os⟩ := s1
  let n := hp.objs.size
  let h2 := (hp.push (PySem.W.kdv_tup us)).push (HandSPX.excO C n)
  have grown : ∀ b o, hp.get? b = some o → h2.get? b = some o := fun b o z => Heap.get?_push_of_some _ (Heap.get?_push_of_some _ z)
  have here : h2.get? (n + 1) = some (HandSPX.excO C n) := by
    show ((hp.push (PySem.W.kdv_tup us)).push (HandSPX.excO C hp.objs.size)).get? (hp.objs.size + 1) = some (HandSPX.excO C hp.objs.size)
    heap_get
  have hole : H1 (n + 1) = none := J.hok.fresh (Nat.le_succ _)
  have q0 := go (n + 1) hole
  have J2 : Inv X pins σ (upd H1 (n + 1) (exo (n + 1) C none)) ⟨h2, g, dr, tk, os⟩ := J.laid (t' := tk) (a := n + 1) (h' := h2) grown (Nat.le_succ _) (exo_ok here)
  have rel : Vals (V.ref (n + 1) :: (vs ++ [])) (Value.ref (n + 1) :: (us ++ [])) := .cons rfl (rs.append .nil)
  have many : (Value.ref (n + 1) :: us ++ []).length = ps.length := rel.length.symm.trans (F.len _ _ _ _ q0)
  have fits : us.length ≤ sizeLine := by
    have z := Paired.length rs
    rw [sizeLine_eq]
    omega
  have run := F.run _ X.stack _ _ ⟨Value.ref (n + 1) :: us, []⟩ _ _ _ (fun _ _ _ => False) ((hr.mono hk).make C us []) (J2.env0.make C us []) (b _ (Value.ref (n + 1) :: us) J2.kIn many) rel q0
  show wpAny _ _ (call (.ref C) us) _ _ _
  refine wpAny_call (HandSPX.call_own T.fB same hC (PySem.W.looks_findIn J.kIn at_) (fun self => PySem.W.bind_fn J.kIn self ty) fits (codeAny_mono run fun o s2 z => ?_))
  match o, z with
  | .error err, z => exact (pass0 : Passes CX0 X _) pins σ _ _ err s2 J2 z
  | .ok (.ret u), ⟨v, H2, os2, bare2, un2, hok2, rv, ev, d, fs, ea, ed, nd, q2⟩ =>
    subst ev
    exact ⟨rv, mk_end (raises_own T.exC T.tyC) J (Nat.le_succ _) grown un2 hok2 os2 bare2 ea ed nd q2⟩

/-! ### o.m(e, ..) that may raise -/
def tMethS (C : Addr) (m : Str) (sp : Sp) (E : L2.St → XK) (ta : TE) (t : TA) : TE := fun σ H Q => ta σ H fun x H1 => ∃ a dx fs, x = .ref a ∧ H1 a = some (.ins C dx fs) ∧ fs.lookup m = none ∧ t σ H1 fun vs H2 => sp (.ref a :: vs) H2 Q (E σ)
section
variable {X : Cx} {k j : Nat} {C : Addr} {x m : Str} {sp : Sp} {W : WX} {p pos apos : Pos} {e o : Expr} {es : List Expr} {ta : TE} {t : TA}
theorem pe_mS {pl : Sem Bool} (c : Met X.prog X.w X.K X.mg X.base (L2.CX X.prog X.w) k C m sp) (cl : Cls X.K C) (tk : Takes X W) (hr : Room j X.A) (hk : k ≤ j) (he : PE X o ta) (ha : PA X (e :: es) t)
    (hst : starEach (e :: es) X.env = (false, eval e X.env) :: starEach es X.env := by rfl) (hpl : (backTo pos (starEach es X.env)).any (·.1) = false := by rfl)
    (ht : eval (.Call (.Attribute o m apos) (e :: es) [] pos) X.env = (do
      let ov ← eval o X.env
      standAt apos.atName
      let (f, first) ← holding [ov] (getMethod ov m pl)
      callWith pos f first (backTo pos (starEach (e :: es) X.env)) (backToKw pos (keywordEach [] X.env))) := by rfl) :
    PE X (.Call (.Attribute o m apos) (e :: es) [] pos) (tMethS C m sp (WE W) ta t) := by
  obtain ⟨f, fd, ps, F, at_, i, kp, b⟩ := c.ex
  refine ⟨fun pins s σ H Q I h => PySem.W.methodCall_KW (pl := pl) (thn (he.run pins s σ H _ I h) fun u s1 ⟨x, H1, I1, rx, a, dx, fs, ex, ea, l, q⟩ => ?_) ht⟩
  subst ex
  obtain rfl : u = Value.ref a := rx
  refine getmeth_ok I1 ea cl ⟨at_, i, kp⟩ l (PySem.W.callWith_K (first := [.ref a]) (h₀ := X.base) I.ok.mod.kin kp (thn (ha.run pos pins s1 σ H1 _ I1 q) fun us s2 ⟨vs, H2, I2, r, q2⟩ => ⟨I2.kIn, ?_⟩) hst hpl)
  exact run_fnS (E := WE W) (us := .ref a :: us) (vs := .ref a :: vs) F (hr.mono hk) b (passAt tk σ) I2 (.cons rfl r) q2
end
/-! ### C(k = v, ..) -/
/-- __init__ with keyword-only parameters, as the top leaves it -/
structure IniK (K : PySem.W.Frag) (C : Addr) (qual : Str) (st : Stmt) (kws : List (Str × V)) : Prop where
  ex : ∃ f fd, FunD K "__init__" qual (defArgs st) (defBody st) (defScope st) [] kws f fd ∧ PySem.W.findIn K (.ref C) "__init__" = some (some (.ref f)) ∧ PySem.W.isFn K (.ref f) = true
theorem IniK.of {K : PySem.W.Frag} {C : Addr} {qual : Str} {st : Stmt} {f : Addr} {oc : Value} {od an : Option Addr} {osl : Array (Option Value)} {kV doc pm cdv ct : Value} {kws : List (Str × V)}
    (a : PySem.W.findIn K (.ref C) "__init__" = some (some (.ref f))) (i : PySem.W.isFn K (.ref f) = true) (l : K.lookup f = some ⟨oc, od, .func (PySem.W.fnOf "__init__" qual (defArgs st) (defBody st) (defScope st) .none kV doc pm an cdv ct), osl⟩)
    (c : PySem.W.codeIn K cdv qual = true) (k : PySem.W.keepIn K (.ref f) = true) (kw : KwdV K kV kws) : IniK K C qual st kws := ⟨f, _, ⟨⟨oc, od, .none, kV, doc, pm, an, cdv, ct, osl, rfl, l, c, .inl ⟨rfl, rfl⟩, kw⟩, k⟩, a, i⟩
structure MakW (P : Program) (w : World) (K : PySem.W.Frag) (mg : Str → Option Value) (base : Heap) (CX : CXT) (k : Nat) (x : Str) (C : Addr) (ks : List Str) (gV : List V → List V → List V) (sp : Sp) : Prop where
  mg_ : mg x = some (.ref C)
  mks : PySem.W.makesIn K C = true
  kp : PySem.W.keepIn K (.ref C) = true
  ex : ∃ f fd ps g, FnOk P w K mg base CX k f fd ps sp ∧ PySem.W.findIn K (.ref C) "__init__" = some (some (.ref f)) ∧ PySem.W.isFn K (.ref f) = true ∧ KBn K fd ps 1 ks g gV
def tMakeKS (C : Addr) (m : Nat) (sp : Sp) (gV : List V → List V → List V) (E : L2.St → XK) (tk : TA) : TE := fun σ H Q => tk σ H fun zs H2 => zs.length = m ∧ ∀ x dx, H2 x = none → H2 dx = none → dx ≠ x →
  sp (gV [.ref x] zs) (upd (upd H2 dx (.own x)) x (.ins C dx [])) (fun v H3 => v = .non ∧ Q (.ref x) H3) (E σ)
section
variable {X : Cx} {k j : Nat} {C : Addr} {ks : List Str} {sp : Sp} {x : Str} {p pos : Pos} {kws : List Keyword} {ta : TA} {gV : List V → List V → List V} {W : WX}
theorem pe_mkKS (c : MakW X.prog X.w X.K X.mg X.base (L2.CX X.prog X.w) k x C ks gV sp) (tk : Takes X W) (hr : Room j X.A) (hk : k + 1 ≤ j) (hg : Gl X x) (hkw : PK X kws ta)
    (hall : (backToKw pos (keywordEach kws X.env)).all (·.1.isSome) = true := by rfl) (hks : (backToKw pos (keywordEach kws X.env)).filterMap (·.1) = ks := by rfl) (hdb : (x == ("__debug__" : Str)) = false := by decide)
    (hpl : ((backTo pos (starEach [] X.env)).any (·.1) || (backToKw pos (keywordEach kws X.env)).any (·.1.isNone)) = false := by rfl) :
    PE X (.Call (.Name x p) [] kws pos) (tMakeKS C ks.length sp gV (WE W) ta) := by
  obtain ⟨f, fd, ps, g, F, ini, fn, b⟩ := c.ex
  refine ⟨fun pins s σ H Q I h => wpAny_Call_Name_kw (ld_glob I hg c.mg_ (PySem.W.callWith_KW0 (h₀ := X.base) I.ok.mod.kin c.kp hall ?_ hpl) hdb)⟩
  refine thn (hkw.run pos pins s σ H _ I h) fun ws s2 ⟨zs, H2, J, rz, ln, q⟩ => ⟨J.kIn, ?_⟩
  rw [hks]
  let n := s2.heap.objs.size
  have q1 := q (n + 1) n (J.hok.fresh (Nat.le_succ _)) (J.hok.fresh (Nat.le_refl _)) (Nat.ne_of_lt (Nat.lt_succ_self _))
  have J2 := Inv.made (C := C) J
  have r1 : Vals [V.ref (n + 1)] [Value.ref (n + 1)] := .cons rfl .nil
  have run := F.run _ X.stack _ _ ⟨[Value.ref (n + 1)], ks.zip ws⟩ _ _ _ (WE W σ) ((hr.mono hk).make C [] (ks.zip ws)) (J2.env0.make C [] (ks.zip ws)) (b.to _ [Value.ref (n + 1)] ws J2.kIn rfl (rz.length.symm.trans ln)) (b.rel r1 rz) q1
  show wpAny (model X.prog X.w) X.A (call (.ref C) [] (ks.zip ws)) (EP X pins σ Q) X.xe s2
  refine wpAny_call (make_map (f := f) J.kIn c.mks ini (beq_iff_eq.mp fn) (codeAny_mono run fun o s3 z => ?_))
  match o, z with
  | .error err, z => exact passAt tk σ pins _ _ err s3 J2 z
  | .ok (.ret u), z =>
    obtain ⟨v, H3, J3, rv, ev, q3⟩ := J2.after z
    subst ev
    exact ⟨rv, V.ref (n + 1), H3, J3, rfl, q3⟩
end
section
variable {P : Program} {w : World} {K : PySem.W.Frag} {mg : Str → Option Value} {base : Heap} {k : Nat} {C : Addr} {x qual : Str} {st : Stmt} {N ps ks : List Str} {kws : List (Str × V)} {sp : Sp}
theorem IniK.mak (D : IniK K C qual st kws) (m : mg x = some (.ref C)) (mk : PySem.W.makesIn K C = true) (kp : PySem.W.keepIn K (.ref C) = true) (S : FnScope N ps (defScope st)) (len : ∀ vs H Q E, sp vs H Q E → vs.length = ps.length)
    (ms : List (Str × V)) (g : {α : Type} → List α → List α → List α → List α) (hk : kws ≠ []) (hms : ∀ q ∈ ms, q ∈ kws) (hrel : ∀ {vs mz zs : List V} {us mv ws : List Value}, Vals vs us → Vals mz mv → Vals zs ws → Vals (g vs mz zs) (g us mv ws))
    (hb : ∀ (D : Addr) (doc pm : Value) (an : Option Addr) (cdv ct : Value) (us mv ws : List Value), us.length = 1 → mv.length = ms.length → ws.length = ks.length →
      KwChain D ((ms.map (·.1)).zip mv) (bindArgs (PySem.W.fnOf "__init__" qual (defArgs st) (defBody st) (defScope st) .none (.ref D) doc pm an cdv ct) ⟨us, ks.zip ws⟩) (ps.zip (g us mv ws)))
    (body : ∀ f, BodyX P w K mg base N qual st f k sp) : MakW P w K mg base (L2.CX P w) (k + 1) x C ks (fun vs zs => g vs (ms.map (·.2)) zs) sp :=
  let ⟨f, fd, F, a, i⟩ := D.ex
  let ⟨mv, b⟩ := F.kbinds0 1 ks ms g hk hms hrel hb
  ⟨m, mk, kp, f, fd, ps, _, F.ok S len (body f), a, i, b⟩
end
end Jg

/-! x != y by an own ==; == of data, {} among it -/
namespace Jg
open PySem PySem.Spec PyProof.Rows L2 PySem.W
section
variable {prog : Program} {w : World} {A : Around} {E : Value → Shared → Prop} {s : Shared} {K : Frag} {x C f : Addr} {ox : Obj} {od : Option Obj} {b tb : Value}
theorem ne_entry {Q : Fin → Shared → Prop} (hu : A.units < cLine) (X : K.In s.heap) (I : InstAt s.heap x ox C od) (eq : findIn K (.ref C) "__eq__" = some (some (.ref f))) (fn : isFn K (.ref f) = true)
    (h : wpAny (model prog w) A (call (.ref f) [.ref x, b]) (fun v s' => ∃ c, v = .bool c ∧ Q (.done (.ret (.bool (!c)))) s') E s) : wpAny (model prog w) A (Builtin.«object.__ne__» ⟨[.ref x, b], []⟩) Q E s := by
  unfold Builtin.«object.__ne__»
  refine wpAny_bind (wpAny_of_eq (a := ((Value.ref x : Value), [b])) (by first | rfl | (simp only [slotArgs]; rfl)) ?_)
  refine wpAny_bind (wpAny_cRoomFor hu ?_)
  refine wpAny_bind (ifBound_K (args := [b]) X I eq fn (wpAny_mono h (fun v s' z => ?_) fun _ _ z => z))
  obtain ⟨c, rfl, q⟩ := z
  refine wpAny_bind (wpAny_truthy_bool ?_)
  exact wpAny_pure q
theorem ne_K {Q : Value → Shared → Prop} (hu : A.units + 1 < cLine) (X : K.In s.heap) (I : InstAt s.heap x ox C od) (hb : Looks (model prog w) s.heap (typeOf b) tb) (hn : notFirst K C tb = true)
    (ne : findIn K (.ref C) "__ne__" = some (some (.builtin "object.__ne__"))) (mro : mroIn K C (.type "object") = some true) (eq : findIn K (.ref C) "__eq__" = some (some (.ref f))) (fn : isFn K (.ref f) = true)
    (h : wpAny (model prog w) A.in1 (call (.ref f) [.ref x, b]) (fun v s' => ∃ c, v = .bool c ∧ Q (.bool (!c)) s') E s) : wpAny (model prog w) A (richCompare .NotEq (.ref x) b) Q E s := by
  have isO : Looks (model prog w) s.heap (isInstance (.ref x) (.type "object")) true := I.type.andThen (looks_mroIn X mro)
  have one : wpAny (model prog w) A (tryCompare (.ref x) (cmpInfo .NotEq).2.1 b) (fun r s' => ∃ v, r = some v ∧ Q v s') E s := by
    unfold tryCompare
    refine wpAny_bind ?_
    show wpAny _ _ (callSpecialIfBound? (.ref x) "__ne__" [b]) _ _ _
    simp only [callSpecialIfBound?, bindSpecialIfBound?]
    refine wpAny_holding (wpAny_bind (wpAny_bind (wpAny_bind (I.type.here ((looks_findIn X ne).here ?_)))))
    refine wpAny_bind (wpAny_askSetting (wpAny_ite ?_))
    have fin : ∀ R : Option Value → Shared → Prop, (∀ c s', Q (.bool (!c)) s' → R (some (.bool (!c))) s') → wpAny (model prog w) A (call (.builtin "object.__ne__") ([.ref x] ++ [b]) >>= fun v => pure (some v)) R E s := by
      intro R hR
      refine wpAny_bind (wpAny_call (codeAny_call_builtin F.cmp_object.ne.plain F.cmpEntry_ne (check_slot F.cmpKind_ne F.cmpSplit_ne isO (F.cmpArgs_ne _ _) ?_)))
      refine ne_entry (A := A.in1) hu X I eq fn (wpAny_mono h (fun v s' z => ?_) fun _ _ z => z)
      obtain ⟨c, rfl, q⟩ := z
      exact ⟨c, rfl, wpAny_pure (hR c s' q)⟩
    rw [F.cmp_object.ne.bind (.ref x)]
    split
    · refine wpAny_bind (wpAny_pure (wpAny_pure ?_))
      exact fin _ fun c s' q => wpAny_pure ⟨_, rfl, q⟩
    · refine wpAny_tryCatch (wpAny_bind (wpAny_pure (wpAny_pure ?_)))
      exact fin _ fun c s' q => wpAny_pure ⟨_, rfl, q⟩
  unfold richCompare
  simp only [oneThing_ref]
  refine wpAny_holding (wpAny_bind (wpAny_cRoomFor (Nat.lt_of_succ_lt hu) ?_))
  refine wpAny_bind (I.type.here (wpAny_bind (hb.here ?_)))
  have fin : ∀ s', (∃ v, (∃ r, r = some v ∧ Q v s')) → True := fun _ _ => trivial
  split
  · rename_i q
    have e : subIn K tb (.ref C) = some false := by
      rcases Bool.or_eq_true_iff.mp hn with e | e
      · rw [beq_iff_eq.mp e] at q; simp at q
      · exact beq_iff_eq.mp e
    refine wpAny_bind ((looks_subIn X e).here ?_)
    simp only [Bool.false_eq_true, if_false]
    refine wpAny_bind (wpAny_mono one (fun r s' ⟨v, e, hq⟩ => ?_) fun _ _ e => e)
    subst e
    exact wpAny_pure hq
  · refine wpAny_bind (wpAny_pure ?_)
    simp only [Bool.false_eq_true, if_false]
    refine wpAny_bind (wpAny_mono one (fun r s' ⟨v, e, hq⟩ => ?_) fun _ _ e => e)
    subst e
    exact wpAny_pure hq
end
/-- x != y by the own == of x -/
def rOwnNe (K : PySem.W.Frag) (C : Addr) (sp : Sp) (E : XK) : R2 := fun x y H Q => ∃ a dx fs t, x = .ref a ∧ H a = some (.ins C dx fs) ∧ TyX K H y t ∧ PySem.W.notFirst K C t = true ∧ sp [.ref a, y] H (fun v H' => ∃ c, v = .bl c ∧ Q (.bl (!c)) H') E
theorem op_ne_c {X : Cx} {k j : Nat} {C : Addr} {sp : Sp} (c : Met X.prog X.w X.K X.mg X.base CX0 k C "__eq__" sp) (ne : PySem.W.findIn X.K (.ref C) "__ne__" = some (some (.builtin "object.__ne__"))) (mro : PySem.W.mroIn X.K C (.type "object") = some true) (hr : Room j X.A) (hk : k + 1 ≤ j) :
    OpR X (compareOp .NotEq) (rOwnNe X.K C sp E0) := by
  intro pins s σ H x y v u Q I rx ry h
  obtain ⟨f, fd, ps, F, a0, i0, kp, bd⟩ := c.ex
  obtain ⟨a, dx, fs, t, rfl, ha, ty, nf, q⟩ := h
  cases rx
  obtain ⟨mA, J, _⟩ := ins_get I.hok ha
  obtain ⟨od, J, _⟩ := J.look
  obtain ⟨P, Z, p, _⟩ := kit_of I ry ty
  have rm : Room (k + 1) X.A := hr.mono hk
  show wpAny _ _ (richCompare .NotEq (.ref a) u) _ _ _
  have ln : [Value.ref a, u].length = ps.length := (Paired.length (show Vals [V.ref a, y] [Value.ref a, u] from .cons rfl (.cons ry .nil))).symm.trans (F.len _ _ _ _ q)
  have bb := bd s [Value.ref a, u] I.kIn (by rw [List.append_nil]; exact ln)
  rw [List.append_nil] at bb
  have rr : Vals [V.ref a, y] [Value.ref a, u] := .cons rfl (.cons ry .nil)
  have run := F.run X.A.in1 X.stack s H ⟨[Value.ref a, u], []⟩ _ _ _ E0 rm.in1 I.env0.in1 bb rr q
  refine ne_K (tb := t) (Nat.lt_of_le_of_lt (by omega) hr.units) I.kIn J (Z.ty _ _ I.kIn p) nf ne mro a0 i0 (wpAny_call (codeAny_mono run fun o s2 z => ?_))
  match o, z with
  | .error err, z => exact z.elim
  | .ok (.ret u2), z =>
    obtain ⟨v3, H2, J3, rv3, cc, rfl, q3⟩ := I.after z
    cases rv3
    exact ⟨_, rfl, .bl _, H2, J3, rfl, q3⟩
/-- data, {} among it -/
def DpX (K : PySem.W.Frag) (H : Hp) (v : V) (d : PyData) : Prop := Dp K H v d ∨ ∃ a, v = .ref a ∧ H a = some (.dK []) ∧ d = .dict []
theorem DpX.reads {X : Cx} {pins : List (Addr × Obj)} {σ : L2.St} {H : Hp} {s : Shared} (I : Inv X pins σ H s) {d : PyData} {v : V} {u : Value} (h : DpX X.K H v d) (r : RelV v u) : ∃ as, Reads s.heap u d as := by
  rcases h with h | ⟨a, rfl, e, rfl⟩
  · exact Dp.reads I d v u h r
  · cases r
    obtain ⟨as, z, _⟩ := dk_nil I.hok e
    exact ⟨as, z⟩
def rEqX (K : PySem.W.Frag) : R2 := fun x y H Q => ∃ d e, DpX K H x d ∧ DpX K H y e ∧ SeqAt.shaped d = true ∧ SeqAt.shaped e = true ∧ Q (.bl (PyData.eqv d e)) H
theorem op_eqX {X : Cx} (hu : X.A.units + 64 < cLine) : OpR X (compareOp .Eq) (rEqX X.K) := by
  intro pins s σ H x y v u Q I rx ry h
  obtain ⟨d, e, hd, he, sd, se, q⟩ := h
  obtain ⟨as, r1⟩ := hd.reads I rx
  obtain ⟨bs, r2⟩ := he.reads I ry
  exact SeqAt.compareEq_shaped r1 r2 sd se hu ⟨.bl _, H, I, rfl, q⟩
/-! ### {} == 'text' -/
section
variable {prog : Program} {w : World} {A : Around} {E : Value → Shared → Prop} {s : Shared}
theorem str_no_dict {z : Str} {u : Tok} {d : Addr} {o : Obj} {es : Array DictEntry} {n : Nat} (Q : Value → Shared → Prop) (at_ : s.heap.get? d = some o) (c : o.cls = .type "dict") (hd : o.data = .dict es n) (q : Q .notImplemented s) :
    wpAny (model prog w) A (call (.builtin "str.__eq__") [.str z u, .ref d]) Q E s := by
  refine wpAny_call (codeAny_call_builtin F.slot_str_eq.plain F.entry_str_eq (F.slot_str_eq.check _ _ _ _ _ _ _ _ (typeIs_str s z u) (F.args_str_eq_2 _ _) ?_))
  obtain ⟨oc, od, dt, sl⟩ := o
  subst c hd
  obtain ⟨h0, g0, d0, t0, os0⟩ := s
  wp_walk using wpAny_loadPart' at_, wpAny_load at_
  first
    | exact q
    | exact ⟨_, rfl, q⟩
theorem dict_no_str {z : Str} {u : Tok} {d : Addr} {o : Obj} (Q : Value → Shared → Prop) (at_ : s.heap.get? d = some o) (c : o.cls = .type "dict") (q : Q .notImplemented s) :
    wpAny (model prog w) A (call (.builtin "dict.__eq__") [.ref d, .str z u]) Q E s := by
  have ty : s.TypeIs (.ref d) "dict" := ⟨_, at_, c⟩
  refine wpAny_call (codeAny_call_builtin F.slot_dict_eq.plain F.entry_dict_eq (F.slot_dict_eq.check _ _ _ _ _ _ _ _ ty (F.args_dict_eq_2 _ _) ?_))
  refine wpAny_bind ?_
  unfold Builtin.Dict.dictSlotArgs
  refine wpAny_bind (wpAny_notOrdered_dict ty ?_)
  refine wpAny_pure ?_
  refine wpAny_bind (wpAny_isInstance (T := "str") (typeIs_str s z u) F.sub_str_dict ?_)
  simp only [Bool.not_false, if_true]
  refine wpAny_bind (wpAny_rule ?_)
  first
    | exact wpAny_bind (wpAny_pure (wpAny_pure q))
    | exact wpAny_bind (wpAny_bind (wpAny_pure (wpAny_pure q)))
    | exact wpAny_pure q
theorem eq_dict_str {z : Str} {u : Tok} {d : Addr} {o : Obj} {es : Array DictEntry} {n : Nat} {Q : Value → Shared → Prop} (at_ : s.heap.get? d = some o) (c : o.cls = .type "dict") (hd : o.data = .dict es n) (hu : A.units < cLine) (q : Q (.bool false) s) :
    wpAny (model prog w) A (compareOp .Eq (.ref d) (.str z u)) Q E s :=
  SeqAt.rc_eq_decline_or (k := false) ⟨_, at_, c⟩ (typeIs_str s z u) (by decide) F.sub_str_dict F.slot_dict_eq F.slot_str_eq_refl
    (fun Q' h => dict_no_str Q' at_ c h) (fun Q' h => str_no_dict Q' at_ c hd h) (fun Q' h => wpAny_of_eq (rfl : isSame (.ref d) (.str z u) = pure false) h) (.inr hu) q
end
def rEqY (K : PySem.W.Frag) : R2 := fun x y H Q => rEqD K x y H Q ∨ ∃ a z, x = .ref a ∧ y = .str z ∧ H a = some (.dK []) ∧ Q (.bl false) H
theorem op_eqY {X : Cx} (hu : X.A.units + 64 < cLine) : OpR X (compareOp .Eq) (rEqY X.K) := by
  intro pins s σ H x y v u Q I rx ry h
  rcases h with h | ⟨a, z, rfl, rfl, e, q⟩
  · exact op_eqD hu pins s σ H x y v u Q I rx ry h
  · cases rx
    obtain ⟨t, rfl⟩ := ry
    obtain ⟨_, na, vs, kv, o, es, n, at_, ex, dt, _⟩ := I.hok a _ e
    exact eq_dict_str at_ ex.1 dt (by omega) ⟨.bl _, H, I, rfl, q⟩
end Jg

/-! x + v, v + x by the own methods of x, v of a built-in type; they may raise -/
namespace Jg
open PySem PySem.Spec PyProof.Rows L2 PySem.W
/-- what the operator nm finds at a built-in type -/
structure NumT (T nm : String) (fl : Bool) : Prop where
  fills : fillsNumberSlot (.type T) nm = pure fl
  rad : ∃ r, typeLookup (.type T) (dunderR nm) = pure r
section
variable {prog : Program} {w : World} {A : Around} {E : Value → Shared → Prop} {s : Shared} {K : Frag} {x C f : Addr} {ox : Obj} {od : Option Obj} {b : Value} {T : String} {op : Operator}
/-- the class's own reflected method: none, or a def -/
def RadOk (K : Frag) (C : Addr) (nm : String) : Prop := findIn K (.ref C) (dunderR nm) = some none ∨ ∃ g, findIn K (.ref C) (dunderR nm) = some (some (.ref g))
theorem py_slot {M : Model} {h : Heap} {nm : String} (X : K.In h) (hs : findIn K (.ref C) (PySem.dunder nm) = some (some (.ref f))) (hr : RadOk K C nm) : Looks M h (numberSlotInPython (.ref C) nm) true := by
  intro A Q E s k q
  unfold numberSlotInPython
  dsimp only
  refine wpAny_bind (looks_findIn X hs A _ E s k ?_)
  refine wpAny_bind (wpAny_pure ?_)
  rcases hr with e | ⟨g, e⟩
  · refine wpAny_bind (looks_findIn X e A _ E s k ?_)
    refine wpAny_bind (wpAny_pure ?_)
    rw [Bool.true_or, if_pos rfl]
    exact wpAny_pure q
  · refine wpAny_bind (looks_findIn X e A _ E s k ?_)
    refine wpAny_bind (wpAny_pure ?_)
    rw [Bool.true_or, if_pos rfl]
    exact wpAny_pure q
theorem first_of (hc : selfFirst K C = true) : ∃ cd rest, clsIn K C = some cd ∧ cd.mro = .ref C :: rest := by
  obtain ⟨cd, hcd, hm⟩ := any_some hc
  cases q : cd.mro with
  | nil => rw [q] at hm; cases hm
  | cons a r =>
    rw [q] at hm
    have e := beq_iff_eq.mp hm
    rw [List.head?_cons] at e
    cases e
    exact ⟨cd, r, hcd, q⟩
theorem left_K {fl : Bool} {Q : Value → Shared → Prop} (X : K.In s.heap) (I : InstAt s.heap x ox C od) (hb : Looks (model prog w) s.heap (typeOf b) (.type T)) (hc : selfFirst K C = true) (hs : findIn K (.ref C) (PySem.dunder op.info.2) = some (some (.ref f))) (hr : RadOk K C op.info.2)
    (hf : isFn K (.ref f) = true) (N : NumT T op.info.2 fl) (sub : subIn K (.type T) (.ref C) = some false) (h : wpAny (model prog w) A (call (.ref f) [.ref x, b]) (PySem.W.CmpBack Q) E s) : wpAny (model prog w) A (binaryOp op (.ref x) b) Q E s := by
  obtain ⟨cd, rest, hcd, hm⟩ := first_of hc
  have own : ∀ R : Option Value → Shared → Prop, (∀ v s', PySem.W.CmpBack Q v s' → v ≠ .notImplemented → R (some v) s') → wpAny (model prog w) A (tryMethod (.ref x) (PySem.dunder op.info.2) b) R E s := by
    intro R hR
    unfold tryMethod
    refine wpAny_bind (special_fn X I hs (beq_iff_eq.mp hf) (wpAny_mono h (fun v s' hv => ?_) fun _ _ e => e))
    have z := hR v s' hv
    cases v <;> first | exact hv.elim | exact wpAny_pure (z nofun)
  have back : ∀ v s', PySem.W.CmpBack Q v s' → v ≠ .notImplemented → Q v s' := fun v s' hv n => by
    cases v <;> first | exact hv.elim | exact hv
  obtain ⟨r, er⟩ := N.rad
  unfold binaryOp
  refine wpAny_holding (wpAny_bind ?_)
  unfold binaryOp1
  refine wpAny_bind (I.type.here (wpAny_bind (hb.here (wpAny_bind ((fills_K X hcd hm hs).here ?_)))))
  rw [if_neg (show ¬ ((Value.ref C == Value.type T) = true) from by rw [show (Value.ref C == Value.type T) = false from rfl]; decide)]
  refine wpAny_bind (wpAny_of_eq N.fills ?_)
  cases fl with
  | false =>
    simp only [Bool.and_false, Bool.false_eq_true, if_false, Bool.false_and]
    refine wpAny_bind (wpAny_pure ?_)
    simp only [Bool.false_eq_true, if_false]
    refine wpAny_bind (m := tryMethod (.ref x) _ b) (own _ fun v s' hv n => ?_)
    exact wpAny_pure (wpAny_pure (back v s' hv n))
  | true =>
    simp only [Bool.and_self, if_true]
    refine wpAny_bind (m := isSubtype _ _) ((looks_subIn X sub).here ?_)
    simp only [Bool.false_eq_true, if_false]
    refine wpAny_bind (m := numberSlotInPython _ _) ((py_slot X hs hr).here ?_)
    simp only [if_true]
    refine wpAny_bind (m := numberSlotInPython _ _) (wpAny_pure ?_)
    simp only [Bool.not_false, if_true]
    refine wpAny_bind (m := typeLookup _ _) (wpAny_of_eq er ?_)
    refine wpAny_bind (m := tryMethod (.ref x) _ b) (own _ fun v s' hv n => ?_)
    exact wpAny_pure (wpAny_pure (back v s' hv n))
/-- int.__add__ declines an instance -/
theorem int_no {i : Int} {t : Tok} {dx : Addr} (Q : Value → Shared → Prop) (at_ : s.heap.get? x = some (instObj C dx)) (q : Q .notImplemented s) : wpAny (model prog w) A (call (.builtin "int.__add__") [.int i t, .ref x]) Q E s := by
  refine wpAny_call (codeAny_call_builtin F.slot_int_add.plain F.entry_int_add (F.slot_int_add.check _ _ _ _ _ _ _ _ (typeIs_int s i t) (F.args_int_add_2 _ _) ?_))
  unfold instObj at at_
  obtain ⟨h0, g0, d0, t0, os0⟩ := s
  wp_walk using wpAny_loadPart' at_, wpAny_load at_
  first
    | exact q
    | exact ⟨_, rfl, q⟩
theorem bool_no {c : Bool} {dx : Addr} (Q : Value → Shared → Prop) (at_ : s.heap.get? x = some (instObj C dx)) (q : Q .notImplemented s) : wpAny (model prog w) A (call (.builtin "int.__add__") [.bool c, .ref x]) Q E s := by
  refine wpAny_call (codeAny_call_builtin F.slot_bool_add.plain F.entry_int_add (F.slot_bool_add.check _ _ _ _ _ _ _ _ rfl (F.args_int_add_2 _ _) ?_))
  unfold instObj at at_
  obtain ⟨h0, g0, d0, t0, os0⟩ := s
  wp_walk using wpAny_loadPart' at_, wpAny_load at_
  first
    | exact q
    | exact ⟨_, rfl, q⟩
/-- what stands left of the operator: it leaves it to the other side -/
def Leaves (prog : Program) (w : World) (T nm : String) (fl : Bool) (a : Value) (x : Addr) : Prop :=
  fl = true → ∀ (A : Around) (E : Value → Shared → Prop) (s : Shared) (C dx : Addr) (R : Option Value → Shared → Prop), s.heap.get? x = some (instObj C dx) → R none s → wpAny (model prog w) A (tryMethod a (PySem.dunder nm) (.ref x)) R E s
theorem leaves_no {T nm : String} {a : Value} : Leaves prog w T nm false a x := fun z => nomatch z
theorem leaves_int {i : Int} {t : Tok} : Leaves prog w "int" "add" true (.int i t) x := fun _ A E s C dx R at_ r => by
  unfold tryMethod callSpecial? specialOf
  refine wpAny_bind (wpAny_bind (wpAny_bind (wpAny_typeOf (typeIs_int s i t) (wpAny_of_eq F.slot_int_add.lookup ?_))))
  refine wpAny_holding (wpAny_bind (wpAny_of_eq (F.slot_int_add.bind _) (wpAny_bind (int_no _ at_ ?_))))
  exact wpAny_pure (wpAny_pure r)
theorem leaves_bool {c : Bool} : Leaves prog w "bool" "add" true (.bool c) x := fun _ A E s C dx R at_ r => by
  unfold tryMethod callSpecial? specialOf
  refine wpAny_bind (wpAny_bind (wpAny_bind (wpAny_typeOf (T := "bool") rfl (wpAny_of_eq F.slot_bool_add.lookup ?_))))
  refine wpAny_holding (wpAny_bind (wpAny_of_eq (F.slot_bool_add.bind _) (wpAny_bind (bool_no _ at_ ?_))))
  exact wpAny_pure (wpAny_pure r)
theorem right_K {fl : Bool} {a : Value} {g dx : Addr} {Q : Value → Shared → Prop} (X : K.In s.heap) (I : InstAt s.heap x ox C od) (at_ : s.heap.get? x = some (instObj C dx)) (ha : Looks (model prog w) s.heap (typeOf a) (.type T)) (hc : selfFirst K C = true) (hs : findIn K (.ref C) (PySem.dunder op.info.2) = some (some (.ref f)))
    (hr : findIn K (.ref C) (dunderR op.info.2) = some (some (.ref g))) (hg : isFn K (.ref g) = true) (N : fillsNumberSlot (.type T) op.info.2 = pure fl) (lv : Leaves prog w T op.info.2 fl a x) (sub : subIn K (.ref C) (.type T) = some false)
    (h : wpAny (model prog w) A (call (.ref g) [.ref x, a]) (PySem.W.CmpBack Q) E s) : wpAny (model prog w) A (binaryOp op a (.ref x)) Q E s := by
  obtain ⟨cd, rest, hcd, hm⟩ := first_of hc
  have own : ∀ R : Option Value → Shared → Prop, (∀ v s', PySem.W.CmpBack Q v s' → v ≠ .notImplemented → R (some v) s') → wpAny (model prog w) A (tryMethod (.ref x) (dunderR op.info.2) a) R E s := by
    intro R hR
    unfold tryMethod
    refine wpAny_bind (special_fn X I hr (beq_iff_eq.mp hg) (wpAny_mono h (fun v s' hv => ?_) fun _ _ e => e))
    have z := hR v s' hv
    cases v <;> first | exact hv.elim | exact wpAny_pure (z nofun)
  have back : ∀ v s', PySem.W.CmpBack Q v s' → v ≠ .notImplemented → Q v s' := fun v s' hv n => by
    cases v <;> first | exact hv.elim | exact hv
  unfold binaryOp
  refine wpAny_holding (wpAny_bind ?_)
  unfold binaryOp1
  refine wpAny_bind (ha.here (wpAny_bind (I.type.here (wpAny_bind (wpAny_of_eq N ?_)))))
  rw [if_neg (show ¬ ((Value.type T == Value.ref C) = true) from by rw [show (Value.type T == Value.ref C) = false from rfl]; decide)]
  refine wpAny_bind ((fills_K X hcd hm hs).here ?_)
  cases fl with
  | false =>
    simp only [Bool.and_true, Bool.false_eq_true, if_false, Bool.false_and]
    refine wpAny_bind (wpAny_pure ?_)
    simp only [Bool.false_eq_true, if_false, Bool.not_false, Bool.and_true, if_true]
    refine wpAny_bind (m := tryMethod (.ref x) _ a) (own _ fun v s' hv n => ?_)
    exact wpAny_bind (wpAny_rule (wpAny_pure (wpAny_pure (back v s' hv n))))
  | true =>
    simp only [Bool.and_self, if_true]
    refine wpAny_bind (m := isSubtype _ _) ((looks_subIn X sub).here ?_)
    simp only [Bool.false_eq_true, if_false]
    refine wpAny_bind (m := numberSlotInPython _ _) (wpAny_pure ?_)
    simp only [Bool.false_eq_true, if_false]
    refine wpAny_bind (m := tryMethod a _ (.ref x)) (lv rfl _ _ _ _ _ _ at_ ?_)
    simp only [Bool.not_false, if_true]
    refine wpAny_bind (m := tryMethod (.ref x) _ a) (own _ fun v s' hv n => ?_)
    exact wpAny_bind (wpAny_rule (wpAny_pure (wpAny_pure (back v s' hv n))))
end
theorem fills_no {T nm : String} {f r : Option Value} (h1 : typeLookup (.type T) (PySem.dunder nm) = pure f) (h2 : typeLookup (.type T) (dunderR nm) = pure r) (e : ((f.isSome && !isSeqSlot f) || (r.isSome && !isSeqSlot r)) = false) : fillsNumberSlot (.type T) nm = pure false := by
  unfold fillsNumberSlot
  dsimp only
  rw [h1, pure_bind, h2, pure_bind, e]
theorem num_str_add : NumT "str" "add" false := ⟨fills_no (f := some (.builtin "str.__add__")) (r := none) (by rw [typeLookup_type, builtinLookup_eq_fast]; kernel_rfl) (by rw [typeLookup_type, builtinLookup_eq_fast]; kernel_rfl) (by decide +kernel), ⟨none, by rw [typeLookup_type, builtinLookup_eq_fast]; kernel_rfl⟩⟩
theorem num_str_sub : NumT "str" "sub" false := ⟨fills_no (f := none) (r := none) (by rw [typeLookup_type, builtinLookup_eq_fast]; kernel_rfl) (by rw [typeLookup_type, builtinLookup_eq_fast]; kernel_rfl) (by decide +kernel), ⟨none, by rw [typeLookup_type, builtinLookup_eq_fast]; kernel_rfl⟩⟩
theorem num_tuple_add : NumT "tuple" "add" false := ⟨fills_no (f := some (.builtin "tuple.__add__")) (r := none) (by rw [typeLookup_type, builtinLookup_eq_fast]; kernel_rfl) (by rw [typeLookup_type, builtinLookup_eq_fast]; kernel_rfl) (by decide +kernel), ⟨none, by rw [typeLookup_type, builtinLookup_eq_fast]; kernel_rfl⟩⟩
theorem num_tuple_sub : NumT "tuple" "sub" false := ⟨fills_no (f := none) (r := none) (by rw [typeLookup_type, builtinLookup_eq_fast]; kernel_rfl) (by rw [typeLookup_type, builtinLookup_eq_fast]; kernel_rfl) (by decide +kernel), ⟨none, by rw [typeLookup_type, builtinLookup_eq_fast]; kernel_rfl⟩⟩
theorem num_list_add : NumT "list" "add" false := ⟨fills_no (f := some (.builtin "list.__add__")) (r := none) (by rw [typeLookup_type, builtinLookup_eq_fast]; kernel_rfl) (by rw [typeLookup_type, builtinLookup_eq_fast]; kernel_rfl) (by decide +kernel), ⟨none, by rw [typeLookup_type, builtinLookup_eq_fast]; kernel_rfl⟩⟩
theorem num_list_sub : NumT "list" "sub" false := ⟨fills_no (f := none) (r := none) (by rw [typeLookup_type, builtinLookup_eq_fast]; kernel_rfl) (by rw [typeLookup_type, builtinLookup_eq_fast]; kernel_rfl) (by decide +kernel), ⟨none, by rw [typeLookup_type, builtinLookup_eq_fast]; kernel_rfl⟩⟩
theorem num_int_add : NumT "int" "add" true := ⟨F.fills_int_add, ⟨some (.builtin "int.__radd__"), by rw [typeLookup_type, builtinLookup_eq_fast]; kernel_rfl⟩⟩
theorem num_int_sub : NumT "int" "sub" true := ⟨F.fills_int_sub, ⟨some (.builtin "int.__rsub__"), by rw [typeLookup_type, builtinLookup_eq_fast]; kernel_rfl⟩⟩
theorem num_bool_add : NumT "bool" "add" true := ⟨F.fills_bool_add, ⟨some (.builtin "int.__radd__"), by rw [typeLookup_type, builtinLookup_eq_fast]; kernel_rfl⟩⟩
theorem num_bool_sub : NumT "bool" "sub" true := ⟨F.fills_bool_sub, ⟨some (.builtin "int.__rsub__"), by rw [typeLookup_type, builtinLookup_eq_fast]; kernel_rfl⟩⟩
/-! ### the operators at the slots as they stand -/
/-- x op y, x an instance, y of a built-in type -/
def rLeft (K : PySem.W.Frag) (C : Addr) (nm : String) (sp : Sp) (E : XK) : R2 := fun x y H Q => ∃ a dx fs T fl, x = .ref a ∧ H a = some (.ins C dx fs) ∧ TyX K H y (.type T) ∧ NumT T nm fl ∧ PySem.W.subIn K (.type T) (.ref C) = some false ∧ sp [.ref a, y] H Q E
def LvV (x : V) (T nm : String) (fl : Bool) : Prop := fl = false ∨ nm = "add" ∧ ((∃ i, x = .int i ∧ T = "int") ∨ ∃ b, x = .bl b ∧ T = "bool")
/-- y op x, y of a built-in type, x an instance -/
def rRight (K : PySem.W.Frag) (C : Addr) (nm : String) (sp : Sp) (E : XK) : R2 := fun x y H Q => ∃ a dx fs T fl, y = .ref a ∧ H a = some (.ins C dx fs) ∧ TyX K H x (.type T) ∧ NumT T nm fl ∧ LvV x T nm fl ∧ PySem.W.subIn K (.ref C) (.type T) = some false ∧ sp [.ref a, x] H Q E
def tOpS (r : L2.St → R2) (ta tb : TE) : TE := fun σ H Q => ta σ H fun x H1 => tb σ H1 fun y H2 => r σ x y H2 Q
section
variable {X : Cx} {W : WX} {k j : Nat} {C : Addr} {sp : Sp} {op : Operator} {e o : Expr} {ta tb : TE} {pos : Pos}
/-- what an operator of the class must be -/
structure Bin (K : PySem.W.Frag) (C : Addr) (nm : String) : Prop where
  sf : PySem.W.selfFirst K C = true
  rad : RadOk K C nm
theorem pe_left (c : Met X.prog X.w X.K X.mg X.base (L2.CX X.prog X.w) k C (PySem.dunder op.info.2) sp) (B : Bin X.K C op.info.2) (tk : Takes X W) (hr : Room j X.A) (hk : k ≤ j) (ha : PE X o ta) (hb : PE X e tb) : PE X (.BinOp o op e pos) (tOpS (fun σ => rLeft X.K C op.info.2 sp (WE W σ)) ta tb) := by
  obtain ⟨f, fd, ps, F, a0, i0, kp, b⟩ := c.ex
  refine ⟨fun pins s σ H Q I h => wpAny_BinOp (binT (R := fun x y H2 => rLeft X.K C op.info.2 sp (WE W σ) x y H2 Q) ha hb I h fun v u s2 x y H2 I2 rx ry q => ?_)⟩
  obtain ⟨a, dx, fs, T, fl, rfl, ea, ty, N, sub, q⟩ := q
  cases rx
  obtain ⟨mA, J0, _⟩ := ins_get I2.hok ea
  obtain ⟨od, J, _⟩ := J0.look
  obtain ⟨P, Z, p, _⟩ := kit_of I2 ry ty
  refine left_K I2.kIn J (Z.ty _ _ I2.kIn p) B.sf a0 B.rad i0 N sub ?_
  exact wpAny_mono (run_fnS (E := WE W) (us := [.ref a, u]) (vs := [.ref a, y]) F (hr.mono hk) b (passAt tk σ) I2 (.cons rfl (.cons ry .nil)) q) (fun _ _ z => back_of z) fun _ _ z => z
theorem pe_right (c : Met X.prog X.w X.K X.mg X.base (L2.CX X.prog X.w) k C (dunderR op.info.2) sp) (B : Bin X.K C op.info.2) {f : Addr} (own : PySem.W.findIn X.K (.ref C) (PySem.dunder op.info.2) = some (some (.ref f))) (tk : Takes X W) (hr : Room j X.A) (hk : k ≤ j) (ha : PE X e ta) (hb : PE X o tb) : PE X (.BinOp e op o pos) (tOpS (fun σ => rRight X.K C op.info.2 sp (WE W σ)) ta tb) := by
  obtain ⟨g, fd, ps, F, a0, i0, kp, b⟩ := c.ex
  refine ⟨fun pins s σ H Q I h => wpAny_BinOp (binT (R := fun x y H2 => rRight X.K C op.info.2 sp (WE W σ) x y H2 Q) ha hb I h fun v u s2 x y H2 I2 rx ry q => ?_)⟩
  obtain ⟨a, dx, fs, T, fl, rfl, ea, ty, N, lv, sub, q⟩ := q
  cases ry
  obtain ⟨mA, J0, _⟩ := ins_get I2.hok ea
  obtain ⟨od, J, _⟩ := J0.look
  obtain ⟨P, Z, p, _⟩ := kit_of I2 rx ty
  have lv' : Leaves X.prog X.w T op.info.2 fl v a := by
    rcases lv with e | ⟨e, ⟨i, e1, e2⟩ | ⟨c, e1, e2⟩⟩
    · subst e; exact leaves_no
    · rw [e]
      subst e1 e2
      obtain ⟨t, rfl⟩ := rx
      exact fun _ => leaves_int rfl
    · rw [e]
      subst e1 e2
      cases rx
      exact fun _ => leaves_bool rfl
  refine right_K I2.kIn J J0.obj (Z.ty _ _ I2.kIn p) B.sf own a0 i0 N.fills lv' sub ?_
  exact wpAny_mono (run_fnS (E := WE W) (us := [.ref a, v]) (vs := [.ref a, x]) F (hr.mono hk) b (passAt tk σ) I2 (.cons rfl (.cons rx .nil)) q) (fun _ _ z => back_of z) fun _ _ z => z
end
/-! ### the truth of an instance -/
theorem pt_own {X : Cx} {k j : Nat} {C : Addr} {sp : Sp} {a : Expr} {ta : TE} (c : Met X.prog X.w X.K X.mg X.base CX0 k C "__bool__" sp) (hr : Room j X.A) (hk : k ≤ j) (ha : PE X a ta) (he : ∀ whole, isTrue a X.env whole = (do let v ← whole; standAt a.pos; holding [v] (truthy v)) := by intro _; rfl) :
    PT X a (fun σ H Q => ta σ H fun x H' => ∃ p dx fs, x = .ref p ∧ H' p = some (.ins C dx fs) ∧ sp [.ref p] H' (fun v H2 => ∃ b, v = .bl b ∧ Q b H2) E0) := by
  refine ⟨fun pins s σ H Q I h => isTrue_plain (thn (ha.run pins s σ H _ I h) fun v s1 ⟨x, H1, I1, r1, q1⟩ => ?_) (he _)⟩
  obtain ⟨p, dx, fs, rfl, ea, q⟩ := q1
  cases r1
  obtain ⟨f, fd, ps, F, ini, fn, kp, b⟩ := c.ex
  obtain ⟨mA, J, _⟩ := ins_get I1.hok ea
  obtain ⟨od, J, _⟩ := J.look
  obtain ⟨m, hF⟩ := I1.fr
  refine PySem.W.truthy_K hF I1.ok.mod.kin J ini fn ?_
  refine wpAny_mono (run_fn (us := [.ref p]) (vs := [.ref p]) F (hr.mono hk) b .nil pass0 I1 (.cons rfl .nil) q) (fun u s2 z => ?_) fun _ _ z => z
  obtain ⟨w', H2, I2, rw', bb, rfl, q3⟩ := z
  cases rw'
  exact ⟨H2, I2, q3⟩
/-! ### C.m(e), m a classmethod that may raise -/
open ClX in
theorem pe_cmS {X : Cx} {W : WX} {k j : Nat} {C : Addr} {mc : Value} {m : Str} {sp : Sp} {o e : Expr} {es : List Expr} {ta : TE} {t : TA} {pos apos : Pos} {pl : Sem Bool} (c : Cmt X.prog X.w X.K X.mg X.base (L2.CX X.prog X.w) k C mc m sp) (tk : Takes X W) (hr : Room j X.A) (hk : k ≤ j) (he : PE X o ta) (ha : PA X (e :: es) t)
    (hst : starEach (e :: es) X.env = (false, eval e X.env) :: starEach es X.env := by rfl) (hpl : (backTo pos (starEach es X.env)).any (·.1) = false := by rfl)
    (ht : eval (.Call (.Attribute o m apos) (e :: es) [] pos) X.env = (do
      let ov ← eval o X.env
      standAt apos.atName
      let (f, first) ← holding [ov] (getMethod ov m pl)
      callWith pos f first (backTo pos (starEach (e :: es) X.env)) (backToKw pos (keywordEach [] X.env))) := by rfl) :
    PE X (.Call (.Attribute o m apos) (e :: es) [] pos) (fun σ H Q => ta σ H fun x H1 => x = .ref C ∧ t σ H1 fun vs H2 => sp (.ref C :: vs) H2 Q (WE W σ)) := by
  obtain ⟨q0, f, fd, ps, F, r, a, b⟩ := c.ex
  refine ⟨fun pins s σ H Q I h => PySem.W.methodCall_KW (pl := pl) (thn (he.run pins s σ H _ I h) fun u s1 ⟨x, H1, I1, rx, ex, q⟩ => ?_) ht⟩
  subst ex
  obtain rfl : u = Value.ref C := rx
  refine getmethcm_ok I1 r a fun s2 I2 => ?_
  refine callwith_cm I2 (base_none I1 (Nat.le_refl _)) a.fi (thn (ha.run pos _ s2 σ H1 _ I2 q) fun us s3 ⟨vs, H2, I3, rv, q2⟩ => ⟨⟨pin_at I3, I3.kIn⟩, ?_⟩) hst hpl
  have rr : Vals (V.ref C :: vs) (Value.ref C :: us) := .cons rfl rv
  have ln : (Value.ref C :: us).length = ps.length := rr.length.symm.trans (F.len _ _ _ _ q2)
  have bd := b s3 (Value.ref C :: us) I3.kIn (by rw [List.append_nil]; exact ln)
  rw [List.append_nil] at bd
  have run := F.run X.A X.stack s3 H2 ⟨Value.ref C :: us, []⟩ _ _ _ (WE W σ) (hr.mono hk) I3.env0 bd rr q2
  have z : wpAny (model X.prog X.w) X.A (call (.ref s1.heap.objs.size) us) (EP X ((s1.heap.objs.size, PySem.W.methodObj (.ref f) (.ref C)) :: pins) σ Q) X.xe s3 :=
    wpAny_call (PySem.W.method_call (pin_at I3) (codeAny_mono run fun o s4 z => match o, z with
      | .error err, z => passAt tk σ _ _ _ err s4 I3 z
      | .ok (.ret u), z => I3.after z))
  exact thn z fun _ _ y => unpinE y
section
variable {P : Program} {w : World} {K : PySem.W.Frag} {mg : Str → Option Value} {base : Heap} {k : Nat} {C : Addr} {mc : Value} {m qual : Str} {st : Stmt} {N ps : List Str} {sp : Sp}
theorem CmtK.cmtX (D : CmtK K C mc m qual st) (S : FnScope N ps (defScope st)) (b : BindOk m qual st ps) (len : ∀ vs H Q E, sp vs H Q E → vs.length = ps.length) (hb : ∀ f, BodyX P w K mg base N qual st f k sp) : Cmt P w K mg base (L2.CX P w) (k + 1) C mc m sp :=
  let ⟨p, f, fd, F, r, a⟩ := D.ex
  ⟨p, f, fd, ps, F.okX S len (hb f), r, a, F.binds b⟩
end
/-! ### str(x) by an own __str__ -/
theorem str_in {prog : Program} {w : World} (x : Value) : MeetsIn prog w (Builtin.«str.__new__» ⟨[.type "str", x], []⟩) fun A R s => wpAny (model prog w) A.in1 (Builtin.Str.strOf x) (fun v s' => R (.ok (.ret v)) s') (fun e s' => R (.error e) s') s := by
  intro A R s h
  rw [str_new_tree x]
  refine wpAny_bind (wpAny_pure (wpAny_bind (wpAny_of_eq isSubtype_str_str ?_)))
  exact wpAny_bind (wpAny_mono h (fun v s' z => wpAny_pure z) fun _ _ z => z)
def rStrO (C : Addr) (sp : Sp) (E : XK) : List V → Hp → VK → Prop := fun xs H Q => ∃ a dx fs, xs = [.ref a] ∧ H a = some (.ins C dx fs) ∧ sp [.ref a] H (fun v H' => ∃ z, v = .str z ∧ Q (.str z) H') E
theorem call_strO {X : Cx} {k j : Nat} {C : Addr} {sp : Sp} (c : Met X.prog X.w X.K X.mg X.base CX0 k C "__str__" sp) (hr : Room j X.A) (hk : k + 2 ≤ j) : CallR X (.type "str") (rStrO C sp E0) := by
  intro pins s σ H xs us Q I r h
  obtain ⟨a, dx, fs, rfl, ea, q⟩ := h
  obtain rfl := Vals.ref1 r
  obtain ⟨f, fd, ps, F, ini, fn, kp, b⟩ := c.ex
  obtain ⟨mA, J, _⟩ := ins_get I.hok ea
  obtain ⟨od, J, _⟩ := J.look
  have rv : Vals [V.ref a] [Value.ref a] := .cons rfl .nil
  have ln : [Value.ref a].length = ps.length := rv.length.symm.trans (F.len _ _ _ _ q)
  have bd := b s [Value.ref a] I.kIn (by rw [List.append_nil]; exact ln)
  rw [List.append_nil] at bd
  have rm : Room (k + 2) X.A := hr.mono hk
  have run := F.run X.A.in1.in1 X.stack s H ⟨[Value.ref a], []⟩ _ _ _ E0 rm.in1.in1 I.env0.in1.in1 bd rv q
  refine callType_newIn PySem.F.called_str (by decide) (PySem.F.typeCall_str_1 _) (PySem.F.newCall_str_1 _) (fun obj => PySem.F.args_object_init_2 obj _) PySem.F.entry_str_new (str_in _) ?_
  unfold Builtin.Str.strOf
  refine wpAny_bind (wpAny_cRoomFor (Nat.lt_of_le_of_lt (by show X.A.units + 2 ≤ X.A.units + 64; omega) hr.units) ?_)
  refine wpAny_bind (special_fn I.kIn J ini (beq_iff_eq.mp fn) (wpAny_call (codeAny_mono run fun o s2 z => ?_)))
  match o, z with
  | .error err, z => exact z.elim
  | .ok (.ret u), z =>
    obtain ⟨v, H2, J3, rv3, zz, rfl, q3⟩ := I.after z
    obtain ⟨t, rfl⟩ := rv3
    refine wpAny_bind (wpAny_pure ?_)
    exact wpAny_pure ⟨typeIs_str _ _ _, .str zz, H2, J3, ⟨_, rfl⟩, q3⟩
end Jg

/-! texts: list(text), text * number, text.replace of written texts behind another written text -/
namespace Jg
open PySem PySem.Spec PyProof.Rows L2
section
variable {X : Cx}
/-- list(text): its signs -/
theorem call_listS (hc : X.calm = true) : CallR X (.type "list") (fun xs H Q => ∃ z : Str, xs = [.str z] ∧ z.length ≤ sizeLine ∧ ∀ p, H p = none → Q (.ref p) (upd H p (.lst (z.cps.toList.map fun c => V.str ⟨#[c]⟩)))) := by
  intro pins s σ H xs us Q I r h
  obtain ⟨z, rfl, hz, q⟩ := h
  obtain ⟨u, rfl, rx⟩ := vals1 r
  obtain ⟨t, rfl⟩ := rx
  refine PySem.call_list_str (hn := hz) (I.ok.hd hc) z t fun h' tk acc c' hk e hi => ?_
  refine ⟨.ref s.heap.objs.size, upd H s.heap.objs.size (.lst (z.cps.toList.map fun c => V.str ⟨#[c]⟩)), I.laid hk (Nat.le_refl _) ⟨by rw [List.length_map, Array.length_toList]; exact hz, acc.toList, c', ?_, by rw [Array.toArray_toList]; exact e⟩, rfl, q _ (I.hok.fresh (Nat.le_refl _))⟩
  refine vals_of_idx _ _ (by rw [List.length_map, Array.length_toList, Array.length_toList]; exact hi.1) fun j u hj => ?_
  obtain ⟨c, t', hc, rfl⟩ := hi.2 j u (by rw [← Array.getElem?_toList]; exact hj)
  exact ⟨.str ⟨#[c]⟩, by rw [List.getElem?_map, Array.getElem?_toList, hc]; rfl, ⟨_, rfl⟩⟩
/-- text * number -/
def timesT (z : Str) (n : Int) : Str := ⟨(List.replicate n.toNat z.cps).foldl (· ++ ·) #[]⟩
theorem op_mul_str : OpR X (binaryOp .Mult) (fun x y H Q => ∃ (z : Str) (n : Int), x = .str z ∧ y = .int n ∧ 2 ≤ n ∧ n ≤ 100000 ∧ z.length = 1 ∧ Q (.str (timesT z n)) H) := by
  intro pins s σ H x y v u Q I rx ry h
  obtain ⟨z, n, rfl, rfl, h1, h2, hz, q⟩ := h
  obtain ⟨t, rfl⟩ := rx
  obtain ⟨t', rfl⟩ := ry
  have e1 : decide (n < -(2 ^ 63 : Int)) = false := decide_eq_false (by omega)
  have e2 : decide (n ≥ 2 ^ 63) = false := decide_eq_false (by omega)
  have e3 : (n == 1 || z.length == 0) = false := by
    rw [hz, Bool.or_eq_false_iff]
    exact ⟨beq_eq_false_iff_ne.mpr (by omega), rfl⟩
  have fl : ∀ (k : Nat) (a : Array Nat), ((List.replicate k z.cps).foldl (· ++ ·) a).size = a.size + k := by
    intro k
    induction k with
    | zero => intro a; rfl
    | succ k ih =>
      intro a
      rw [List.replicate_succ, List.foldl_cons, ih, Array.size_append]
      have : z.cps.size = 1 := hz
      omega
  have sz : (timesT z n).length ≤ sizeLine := by
    show ((List.replicate n.toNat z.cps).foldl (· ++ ·) #[]).size ≤ sizeLine
    rw [fl, sizeLine_eq]
    show 0 + n.toNat ≤ _
    omega
  refine PySem.P.mul_str (by rw [e1, e2]; rfl) (fun _ _ => ?_) (fun _ _ => ?_) ?_
  · rw [hz]
    have : (2 ^ 63 - 1) / n ≥ 1 := by
      have : (1 : Int) * n ≤ 2 ^ 63 - 1 := by omega
      exact (Int.le_ediv_iff_mul_le (by omega)).mpr this
    omega
  · unfold PySem.Builtin.Str.tooLong
    rw [hz, sizeLine_eq]
    exact decide_eq_false (by omega)
  · rw [if_neg (by omega), if_neg (by rw [e3]; decide)]
    exact ⟨sz, ⟨.str (timesT z n), H, I.tok _, ⟨_, rfl⟩, q⟩⟩
/-! ### a written text was read: a token is out -/
def PE1 (X : Cx) (e : Expr) (t : TE) : Prop :=
  ∀ (pins : List (Addr × Obj)) (s : Shared) (σ : L2.St) (H : Hp) (Q : VK), Inv X pins σ H s → t σ H Q → wpAny (model X.prog X.w) X.A (eval e X.env) (fun u s' => 1 ≤ s'.toks ∧ EP X pins σ Q u s') X.xe s
theorem pe1_op {op : Operator} {r : R2} {a : Expr} {c : Str} {j : Nat} {cp pos : Pos} {ta : TE} (ho : OpR X (binaryOp op) r) (ha : PE X a ta) : PE1 X (.BinOp a op (.Constant (.str c) j cp) pos) (tOp r ta (tC (.str c))) := by
  intro pins s σ H Q I h
  refine wpAny_BinOp (thn (ha.run pins s σ H _ I h) fun v s1 ⟨x, H1, I1, r1, q1⟩ => Calls.Constant_str ?_)
  refine wpAny_mono (PySem.wpAny_toks_of (n := 1) (by show 1 ≤ s1.toks + 1; omega) (ho pins { s1 with toks := s1.toks + 1 } σ H1 x (.str c) v (.str c s1.toks) Q (I1.tok _) r1 ⟨_, rfl⟩ q1)) (fun _ _ z => z) fun _ _ z => z.2
theorem pet_of {e : Expr} {t : TE} (h : PE X e t) : PET X e t := fun pins s σ H Q _ I q => h.run pins s σ H Q I q
theorem pa_tok {e : Expr} {es : List Expr} {te : TE} {ta : TA} (ha : PE1 X e te) (hr : PAT X es ta) (hs : starEach (e :: es) X.env = (false, eval e X.env) :: starEach es X.env := by rfl) : PA X (e :: es) (tCons te ta) := by
  refine ⟨fun pos pins s σ H Q I h => ?_⟩
  rw [hs]
  show wpAny _ _ (spliced ((false, eval e X.env) :: backTo pos (starEach es X.env))) _ _ s
  refine Calls.spliced_cons (thn (ha pins s σ H _ I h) fun u s1 ⟨hk, x, H1, I1, r1, q1⟩ => ?_)
  exact thn (hr pos pins s1 σ H1 _ hk I1 q1) fun us s2 ⟨xs, H2, I2, r2, q2⟩ => ⟨x :: xs, H2, I2, .cons r1 r2, q2⟩
def tRepl (y z : Str) (to : TE) : TE := fun σ H Q => to σ H fun x H1 => ∃ a : Str, x = .str a ∧ a.length + (a.length + 1) * z.length ≤ 16777216 ∧ Q (.str (Txt.replace a y z)) H1
theorem pet_repl {o : Expr} {y z : Str} {j0 j1 : Nat} {c0 c1 apos pos : Pos} {to : TE} (ho : PE X o to) (hyz : (y == z) = false)
    (hst : starEach [.Constant (.str y) j0 c0, .Constant (.str z) j1 c1] X.env = [(false, eval (.Constant (.str y) j0 c0) X.env), (false, eval (.Constant (.str z) j1 c1) X.env)] := by rfl)
    (hbase : attributeBase o "replace" X.env (eval o X.env) = eval o X.env := by rfl) (hline : (apos.endLine == pos.line) = true := by rfl) :
    PET X (.Call (.Attribute o "replace" apos) [.Constant (.str y) j0 c0, .Constant (.str z) j1 c1] [] pos) (tRepl y z to) := by
  intro pins s σ H Q h0 I h
  refine PySem.Call_method2 hbase hst hline (wpAny_mono (PySem.wpAny_toks_of (n := 1) h0 (ho.run pins s σ H _ I h)) (fun v s1 q => ?_) fun _ _ x => x.2)
  obtain ⟨hk, x, H1, I1, r1, a, rfl, hb, q⟩ := q
  obtain ⟨tx, rfl⟩ := r1
  refine ⟨"str", _, F.plainAttrs_str, F.slot_str_replace, F.type_str_replace, typeIs_str _ _ _, (fun _ e => nomatch e), Calls.callWith_builtin rfl (Calls.evalArgs_plain (Calls.spliced_cons ?_))⟩
  refine Calls.Constant_str (Calls.spliced_cons (Calls.Constant_str (Calls.spliced_nil ?_)))
  exact PySem.SC.replace (t := tx) (show s1.toks ≠ 0 by omega) (show s1.toks + 1 ≠ 0 by omega) (show s1.toks ≠ s1.toks + 1 by omega) hyz hb fun t' k => ⟨.str (Txt.replace a y z), H1, I1.tok k, ⟨t', rfl⟩, q⟩
end
end Jg

/-! set(words) of a list of texts; sorted and len of it -/
namespace Jg
open PySem PySem.Spec PyProof.Rows L2
def wKey (e : Int × Value) : Str := match e.2 with | .str z _ => z | _ => Str.empty
def IsW (P : Program) (w : World) (e : Int × Value) : Prop := ∃ z tk, e.2 = Value.str z tk ∧ e.1 = (strKind P w).hash z
/-- the set of the texts zs, each once, in any order -/
def SetW (P : Program) (w : World) (h : Heap) (a : Addr) (zs : List Str) : Prop := ∃ o es ep t, h.get? a = some o ∧ o.ExactSet ∧ o.data = .set es ep t ∧ (∀ e ∈ es.toList, IsW P w e) ∧ (es.toList.map wKey).Perm zs ∧ zs.Nodup ∧ zs.length < scanBound ∧
  t.fits es.size = true ∧ Ris t.place.toList ∧ (w.params.followText "set-order" = true ∨ t.led = true)
section
variable {P : Program} {w : World} {h h' : Heap} {a : Addr} {zs : List Str}
theorem SetW.move (R : SetW P w h a zs) (k : ∀ o, h.get? a = some o → h'.get? a = some o) : SetW P w h' a zs :=
  let ⟨o, es, ep, t, ho, r⟩ := R
  ⟨o, es, ep, t, k o ho, r⟩
theorem SetW.cast {ys : List Str} (R : SetW P w h a zs) (e : zs = ys) : SetW P w h a ys := e ▸ R
theorem isW_key {e : Int × Value} (g : IsW P w e) (z : Str) : (strKind P w).is z e.2 = true ↔ wKey e = z := by
  obtain ⟨y, tk, e2, _⟩ := g
  have e3 : wKey e = y := by unfold wKey; rw [e2]
  rw [e3, e2]
  constructor
  · exact fun q => (strKind P w).inj _ _ _ (strKind_is P w y tk) q
  · intro q
    rw [← q]
    exact strKind_is P w y tk
theorem isW_elems {l : List (Int × Value)} (g : ∀ e ∈ l, IsW P w e) : ElemsOf (strKind P w) l := fun e he =>
  let ⟨z, tk, e1, e2⟩ := g e he
  ⟨⟨z, e1 ▸ strKind_is P w z tk, e2⟩, by rw [e1]; rfl⟩
end
section
variable {P : Program} {w : World} {A : Around} {E : Value → Shared → Prop} {s : Shared} {a : Addr} {zs : List Str}
/-- the entries are laid, the table may grow -/
theorem setW_lay {f : Bool → Sem Unit} (pf : ∀ (b : Bool) (s1 : Shared) (K : Unit → Shared → Prop), K () s1 → wpAny (model P w) A (f b) K E s1) {o : Obj} {es xs : Array (Int × Value)} {ep : Nat} {t t2 : SetTable} {ys : List Str} (at_ : s.heap.get? a = some o) (ex : o.ExactSet)
    (dt : o.data = .set es ep t) (gd : ∀ e ∈ xs.toList, IsW P w e) (pm : (xs.toList.map wKey).Perm ys) (nd : ys.Nodup) (few : ys.length < scanBound) (ft : t2.fits xs.size = true) (ri : Ris t2.place.toList) (ld : w.params.followText "set-order" = true ∨ t2.led = true) {dum : Bool}
    {R : Option Bool → Shared → Prop} (k : ∀ h', Heap.SameBut a s.heap h' → SetW P w h' a ys → R (some true) { s with heap := h' }) :
    wpAny (model P w) A (do
        storeSet a xs t2
        if (!dum && t2.tooFull) = true then do
            f (relayAll t2 xs (SetTable.grown xs.size)).2.2
            storeSet a (relayAll t2 xs (SetTable.grown xs.size)).1 (relayAll t2 xs (SetTable.grown xs.size)).2.1
            pure (some true)
          else pure (some true)) R E s := by
  have many : ∀ u : Array (Int × Value), (u.toList.map wKey).Perm ys → u.size < scanBound := fun u q => by
    have z := q.length_eq
    rw [List.length_map, Array.length_toList] at z
    omega
  refine wpAny_bind (wpAny_storeSet_of at_ dt ?_ (fits_of_scanBound (many xs pm)))
  have w1 := store_at (es' := xs) (t' := t2) at_ dt
  have same1 := Heap.SameBut.update s.heap a (Obj.putSet xs t2)
  split
  · have q1 := relayAll_perm t2 xs (SetTable.grown xs.size)
    have q2 := relayAll_fits t2 xs (SetTable.grown xs.size)
    have q3 := relayAll_ris t2 xs (SetTable.grown xs.size)
    have q4 := relayAll_led t2 xs (SetTable.grown xs.size)
    revert q1 q2 q3 q4
    generalize relayAll t2 xs (SetTable.grown xs.size) = Y
    obtain ⟨us, t3, gv⟩ := Y
    intro q1 q2 q3 q4
    have pm2 : (us.toList.map wKey).Perm ys := (q1.map wKey).trans pm
    refine wpAny_bind (pf _ _ _ (wpAny_bind (wpAny_storeSet_of w1 rfl ?_ (fits_of_scanBound (many us pm2)))))
    refine wpAny_pure (k _ (same1.trans (Heap.SameBut.update _ a _)) ⟨_, us, _, t3, store_at (es' := us) (t' := t3) w1 rfl, ex, rfl, fun e he => gd e (q1.mem_iff.mp he), pm2, nd, few, q2, q3, ?_⟩)
    rcases ld with l | l
    · exact .inl l
    · exact .inr (by rw [← l]; exact q4)
  · exact wpAny_pure (k _ same1 ⟨_, xs, _, t2, w1, ex, rfl, gd, pm, nd, few, ft, ri, ld⟩)
theorem setW_add {z : Str} {tk : Tok} {Q : Bool → Shared → Prop} (R : SetW P w s.heap a zs) (room : zs.length + 1 < scanBound) (k : ∀ b h', Heap.SameBut a s.heap h' → SetW P w h' a (if z ∈ zs then zs else z :: zs) → Q b { s with heap := h' }) :
    wpAny (model P w) A (setAddHashed a (.str z tk) ((strKind P w).hash z)) Q E s := by
  obtain ⟨o, es, ep, t, at_, ex, dt, gd, pm, nd, few, ft, ri, ld⟩ := id R
  have el := isW_elems gd
  have small : es.size < scanBound := by
    have q := pm.length_eq
    rw [List.length_map, Array.length_toList] at q
    omega
  have sc : (Value.str z tk).scannable = true := rfl
  have isz : (strKind P w).is z (.str z tk) = true := strKind_is P w z tk
  unfold setAddHashed setAddHashedIn
  refine wpAny_holding (wpAny_bind (wpAny_setState_of at_ dt ft ?_))
  dsimp only
  rw [byScan_of sc small el]
  simp only [↓reduceIte]
  unfold setAddByScan
  refine wpAny_bind (wpAny_bind (wpAny_rule (wpAny_bind (wpAny_setScan_of isz at_ dt ft el ?_))))
  cases fi : List.findIdx? (fun e => (strKind P w).is z e.2) es.toList with
  | some j =>
    dsimp only
    obtain ⟨lt, yes, _⟩ := List.findIdx?_eq_some_iff_getElem.mp fi
    have mem : z ∈ zs := pm.mem_iff.mp (List.mem_map.mpr ⟨_, List.getElem_mem lt, (isW_key (gd _ (List.getElem_mem lt)) z).mp yes⟩)
    exact wpAny_pure (wpAny_pure (k _ s.heap (Heap.SameBut.refl a s.heap) (R.cast (if_pos mem).symm)))
  | none =>
    dsimp only
    have out : z ∉ zs := fun m => by
      obtain ⟨e, he, q⟩ := List.mem_map.mp (pm.mem_iff.mpr m)
      have c := List.findIdx?_eq_none_iff.mp fi e he
      rw [(isW_key (gd e he) z).mpr q] at c
      cases c
    rw [if_neg out] at k
    have q1 := layNew_perm t es ((strKind P w).hash z) (.str z tk)
    have q2 := layNew_fits t es ((strKind P w).hash z) (.str z tk)
    have q3 := layNew_ris t es ((strKind P w).hash z) (.str z tk) ri
    have q4 := layNew_led t es ((strKind P w).hash z) (.str z tk)
    revert q1 q2 q3 q4
    generalize layNew t es ((strKind P w).hash z) (.str z tk) = Y
    obtain ⟨xs, t1, dum, gv⟩ := Y
    intro q1 q2 q3 q4
    have pc : xs.toList.Perm (((strKind P w).hash z, Value.str z tk) :: es.toList) := by
      have q := q1
      rw [Array.toList_push] at q
      exact q.trans (List.perm_append_singleton _ _)
    have pz : (xs.toList.map wKey).Perm (z :: zs) := (pc.map wKey).trans (List.Perm.cons z pm)
    have gd2 : ∀ e ∈ xs.toList, IsW P w e := fun e he => (List.mem_cons.mp (pc.mem_iff.mp he)).elim (fun q => q ▸ ⟨z, tk, rfl, rfl⟩) (gd e)
    have ld2 : w.params.followText "set-order" = true ∨ t1.led = true := ld.elim .inl fun l => .inr (by rw [← l]; exact q4)
    have few2 : (z :: zs).length < scanBound := room
    refine wpAny_bind ?_
    refine (fun (m : ∀ {K : Unit → Shared → Prop}, K () s → wpAny (model P w) A _ K E s) (r : _) => m r) (fun q => by cases gv <;> first | exact wpAny_pure q | exact wpAny_rule q) ?_
    split
    · refine wpAny_bind ?_
      rw [hashByValue_scannable 8 sc]
      refine wpAny_pure (setW_lay (fun b s1 K q => by cases b <;> first | exact wpAny_pure q | exact wpAny_rule q) at_ ex dt gd2 pz (List.nodup_cons.mpr ⟨out, nd⟩) few2 ?_ ?_ ?_ fun h' sb r => wpAny_pure (k _ h' sb r))
      · first | (split <;> first | exact q2 | exact SetTable.fits_plain_off q2) | exact q2
      · first | (split <;> exact q3) | exact q3
      · first | (split <;> exact ld2) | exact ld2
    · refine wpAny_bind (wpAny_pure ?_)
      simp only [↓reduceIte]
      exact setW_lay (fun b s1 K q => by cases b <;> first | exact wpAny_pure q | exact wpAny_rule q) at_ ex dt gd2 pz (List.nodup_cons.mpr ⟨out, nd⟩) few2 q2 q3 ld2 fun h' sb r => wpAny_pure (k _ h' sb r)
end
/-- each text once -/
def addW (l : List Str) (z : Str) : List Str := if z ∈ l then l else z :: l
def onceW (ks : List Str) : List Str := ks.foldl addW []
theorem addW_len (l : List Str) (z : Str) : (addW l z).length ≤ l.length + 1 := by
  unfold addW
  split
  · omega
  · exact Nat.le_refl _
theorem fold_len : ∀ (ks l : List Str), (ks.foldl addW l).length ≤ l.length + ks.length
  | [], l => Nat.le_refl _
  | z :: r, l => by
    have h1 := fold_len r (addW l z)
    have h2 := addW_len l z
    rw [List.foldl_cons, List.length_cons]
    omega
theorem onceW_len (ks : List Str) : (onceW ks).length ≤ ks.length := by
  have h := fold_len ks []
  rw [List.length_nil, Nat.zero_add] at h
  exact h
theorem fold_mem : ∀ (ks l : List Str) (z : Str), z ∈ ks.foldl addW l ↔ z ∈ l ∨ z ∈ ks
  | [], l, z => by simp
  | y :: r, l, z => by
    rw [List.foldl_cons, fold_mem r]
    unfold addW
    by_cases m : y ∈ l
    · rw [if_pos m, List.mem_cons]
      constructor
      · exact fun q => q.elim .inl fun q => .inr (.inr q)
      · rintro (q | q | q)
        · exact .inl q
        · exact .inl (q ▸ m)
        · exact .inr q
    · rw [if_neg m, List.mem_cons, List.mem_cons]
      constructor
      · rintro ((q | q) | q)
        · exact .inr (.inl q)
        · exact .inl q
        · exact .inr (.inr q)
      · rintro (q | q | q)
        · exact .inl (.inr q)
        · exact .inl (.inl q)
        · exact .inr q
theorem onceW_mem {ks : List Str} {z : Str} : z ∈ onceW ks ↔ z ∈ ks := by
  unfold onceW
  rw [fold_mem]
  simp
theorem onceW_nodup : ∀ (ks l : List Str), l.Nodup → (ks.foldl addW l).Nodup
  | [], _, h => h
  | z :: r, l, h => by
    rw [List.foldl_cons]
    refine onceW_nodup r _ ?_
    unfold addW
    split
    · exact h
    · exact List.nodup_cons.mpr ⟨by assumption, h⟩
/-- as many as there are texts: just if all are different -/
theorem onceW_all : ∀ (ks l : List Str), (ks.foldl addW l).length = l.length + ks.length ↔ ks.Nodup ∧ ∀ z ∈ ks, z ∉ l
  | [], l => ⟨fun _ => ⟨List.Pairwise.nil, fun _ h => nomatch h⟩, fun _ => rfl⟩
  | z :: r, l => by
    have ih := onceW_all r (addW l z)
    have le := fold_len r (addW l z)
    rw [List.foldl_cons, List.length_cons, List.nodup_cons]
    unfold addW at ih le ⊢
    by_cases m : z ∈ l
    · rw [if_pos m] at le ⊢
      constructor
      · intro h; omega
      · intro h
        exact absurd m (h.2 z List.mem_cons_self)
    · rw [if_neg m] at ih le ⊢
      rw [List.length_cons] at ih le
      constructor
      · intro h
        obtain ⟨n, o⟩ := ih.mp (by omega)
        refine ⟨⟨fun q => o z q List.mem_cons_self, n⟩, fun y hy => ?_⟩
        rcases List.mem_cons.mp hy with e | e
        · rw [e]; exact m
        · exact fun q => o y e (List.mem_cons_of_mem _ q)
      · rintro ⟨⟨n1, n2⟩, o⟩
        have := ih.mpr ⟨n2, fun y hy q => (List.mem_cons.mp q).elim (fun e => n1 (e ▸ hy)) (o y (List.mem_cons_of_mem _ hy))⟩
        omega
section
variable {P : Program} {w : World} {A : Around} {E : Value → Shared → Prop} {s : Shared}
theorem setW_new {h : Heap} {a : Addr} (e : h.get? a = some (mtSet w)) : SetW P w h a [] :=
  ⟨_, #[], 0, _, e, ⟨rfl, rfl, rfl⟩, rfl, (fun _ q => absurd q (by simp)), List.Perm.nil, List.Pairwise.nil, by decide, by rfl, List.Pairwise.nil, by
    show _ ∨ (!w.params.followText "set-order") = true
    cases w.params.followText "set-order" with
    | true => exact .inl rfl
    | false => exact .inr rfl⟩
/-- the loop behind set(x), over texts -/
theorem words_loop {it st : Addr} {fp wr : List Addr} {G : Array GenState → Array GenState → Prop} {m : Nat} {Pv : Nat → Value → Prop} {At : Nat → Shared → Prop} {R : Result → Shared → Prop} (T : WalksS P w A.in1 it fp wr G m Pv At) (off : st ∉ fp) (ks : List Str) (em : m = ks.length)
    (few : ks.length + 1 < scanBound) (vals : ∀ i v, Pv i v → ∃ z t, ks[i]? = some z ∧ v = .str z t) :
    ∀ (left i : Nat) (s : Shared), m - i = left → i ≤ m → At i s → SetW P w s.heap st (onceW (ks.take i)) → (∀ q, Moved (st :: wr) G s q → SetW P w q.heap st (onceW ks) → R (.ok (.ret .none)) q) →
      codeAny (model P w) A (.builtin "set.update.loop" ⟨[.ref st, .ref it], []⟩) R s := by
  have offw : st ∉ wr := fun z => off (T.sub _ z)
  have up : ∀ b ∈ wr, b ∈ st :: wr := fun _ z => List.mem_cons_of_mem _ z
  intro left
  induction left with
  | zero =>
    intro i s e le at_ W k
    obtain rfl : i = m := by omega
    refine codeAny_builtin F.entry_set_update_loop ?_
    rw [Around.under_plainId F.plain_set_update_loop _]
    refine wpAny_bind (m := pyNext (.ref it)) (T.done s _ _ at_ fun q mv => ?_)
    have all : ks.take i = ks := List.take_of_length_le (by omega)
    rw [all] at W
    exact wpAny_pure (k q (mv.mono up) (W.move fun o e => mv.heap st o offw e))
  | succ left ih =>
    intro i s e le at_ W k
    have lt : i < m := by omega
    refine codeAny_builtin F.entry_set_update_loop ?_
    rw [Around.under_plainId F.plain_set_update_loop _]
    refine wpAny_bind (m := pyNext (.ref it)) (T.item i s _ _ lt at_ fun v q pv at2 mv => ?_)
    obtain ⟨z, t, ez, rfl⟩ := vals i v pv
    have W2 : SetW P w q.heap st (onceW (ks.take i)) := W.move fun o e => mv.heap st o offw e
    refine wpAny_bind (m := holding [Value.str z t] (setAdd st (.str z t))) (wpAny_holding ?_)
    unfold setAdd
    refine wpAny_holding (wpAny_bind ((strKind P w).pyHash (k := z) (strKind_is _ _ _ _) ?_))
    have room : (onceW (ks.take i)).length + 1 < scanBound := by
      have h1 := onceW_len (ks.take i)
      rw [List.length_take] at h1
      omega
    refine setW_add (s := { q with toks := q.toks + 1 }) W2 room fun b h2 sb W3 => ?_
    have nx : (if z ∈ onceW (ks.take i) then onceW (ks.take i) else z :: onceW (ks.take i)) = onceW (ks.take (i + 1)) := by
      have e1 : ks.take (i + 1) = ks.take i ++ [z] := by rw [List.take_add_one, ez]; rfl
      rw [e1]
      unfold onceW
      rw [List.foldl_append]
      rfl
    rw [nx] at W3
    have still : ∀ c, c ≠ st → ∀ o, q.heap.get? c = some o → h2.get? c = some o := fun c n o e => by rw [sb.2 c n]; exact e
    refine wpAny_pure ⟨plainId_quiet F.plain_set_update_loop _, ih (i + 1) _ (by omega) lt (T.frame _ q _ _ at2 (Nat.le_succ _) fun c hc o e => still c (fun n => off (n ▸ hc)) o e) W3 fun y mv2 Wy => k y ?_ Wy⟩
    exact Moved.trans T.gtrans ((mv.mono up).then_heap (Nat.le_succ _) fun c o hc e => still c (fun n => hc (n ▸ List.mem_cons_self)) o e) mv2
end
section
variable {P : Program} {w : World} {A : Around} {E : Value → Shared → Prop} {s : Shared}
/-- what stands behind set(x) of texts -/
abbrev WordsDone (P : Program) (w : World) (s : Shared) (ks : List Str) (s₂ : Shared) : Prop :=
  ∃ h' tk, s₂ = { s with heap := h', toks := tk } ∧ SetW P w h' s.heap.objs.size (onceW ks) ∧ ∀ b o, s.heap.get? b = some o → h'.get? b = some o
set_option maxHeartbeats 8000000 in
theorem set_of_words {l : Addr} {items : Array Value} (ks : List Str) {Q : Value → Shared → Prop} (hh : A.handled = none) (hl : s.heap.IsList l items) (hsz : items.size = ks.length) (hit : ∀ (i : Nat) (v : Value), items[i]? = some v → ∃ z t, ks[i]? = some z ∧ v = .str z t) (hb : ks.length + 1 < scanBound)
    (h : ∀ s₂, WordsDone P w s ks s₂ → Q (.ref s.heap.objs.size) s₂) : wpAny (model P w) A (call (.type "set") [.ref l]) Q E s := by
  obtain ⟨c, tl, hmro⟩ := F.called_set.mro
  have m1 := F.called_set.made
  have m2 := F.called_set.sub
  have m3 := F.called_set.notType
  have m4 := F.called_set.canCreate
  have m5 := F.typeCall_set_1 (.ref l)
  refine wpAny_call (codeAny_of_tree (show wpAny _ _ (callAny (.type "set") _) _ _ _ from wpAny_pure ⟨Code.quiet_builtin _ (by decide +kernel), codeAny_builtin F.entry_type_call ?_⟩))
  rw [Around.under_plain (weight_type_call_type "set" [.ref l] []) rfl]
  repeat (any_goals (first | assumption | wp_step))
  refine codeAny_mono (code_set_led1 (.ref l) (E := E) (Q₁ := fun obj s₁ => obj = .ref s.heap.objs.size ∧ s₁ = { s with heap := s.heap.push (mtSet w) }) ⟨rfl, rfl⟩) fun r s₁ hr => ?_
  match r, hr with
  | .error e, hr => exact hr
  | .ok (.ret obj), hr =>
    obtain ⟨rfl, rfl⟩ := hr
    have new := mt_at w s.heap
    have ty : Shared.TypeIs { s with heap := s.heap.push (mtSet w) } (.ref s.heap.objs.size) "set" := ⟨_, new, rfl⟩
    have m6 := F.called_set.init.lookup
    have m7 := F.called_set.init.bind (.ref s.heap.objs.size)
    repeat (any_goals (first | assumption | wp_step))
    refine codeAny_mono (codeAny_call_builtin (R := wants (fun r s₂ => r = .none ∧ WordsDone P w s ks s₂) E) F.called_set.init.plain F.entry_set_init (check_set_init_1 ty ?_)) fun r₂ s₂ hr₂ => ?_
    · obtain ⟨⟨ocls, odict, odata, oslots⟩, hol, hcl, nl, hdl⟩ := hl
      simp only at hcl hdl
      subst hcl; subst hdl
      have lt : l < s.heap.objs.size := Heap.lt_size hol
      have old : (s.heap.push (mtSet w)).get? l = some { cls := .type "list", dict := odict, data := .seq items nl, slots := oslots } := Heap.get?_push_of_some _ hol
      have il : (s.heap.push (mtSet w)).IsList l items := ⟨_, old, rfl, nl, rfl⟩
      have n1 := F.sub_list_set
      have n2 := F.sub_list_frozenset
      have n3 : (Value.type "list" == Value.type "dict") = false := by decide
      have sz : (s.heap.push (mtSet w)).objs.size = s.heap.objs.size + 1 := Heap.size_push ..
      unfold Builtin.«set.__init__» noKeywords Builtin.Frozenset.updateFrom
      generalize hPI : pyIter = PI
      wp_walk
      subst hPI
      refine wpAny_pyIter_list il (wpAny_bind (wpAny_runValue ?_))
      have apart : l ≠ (s.heap.push (mtSet w)).objs.size := by rw [sz]; exact Nat.ne_of_lt (Nat.lt_succ_of_lt lt)
      refine words_loop (P := P) (w := w) ((Walks.list (show A.in1.in1.in1.handled = none by simp [hh]) _ l apart items).toS) (st := s.heap.objs.size) ?_ ks hsz hb hit (items.size - 0) 0 _ (by omega) (Nat.zero_le _)
        ⟨⟨_, Heap.get?_push_size _ rfl, rfl, rfl⟩, il.push _⟩ (setW_new (Heap.get?_push_of_some _ new)) fun s' hm hS' => ?_
      · rw [sz]
        intro z
        rcases List.mem_cons.mp z with z | z
        · exact absurd z (Nat.ne_of_lt (Nat.lt_succ_self _))
        · rcases List.mem_cons.mp z with z | z
          · exact absurd z (Nat.ne_of_gt lt)
          · cases z
      · obtain ⟨h', g2, d', tk', os'⟩ := s'
        obtain rfl : g2 = s.gens := hm.gens
        obtain rfl : d' = s.drawn := hm.drawn
        obtain rfl : os' = s.os := hm.os
        refine wpAny_pure (show wpAny _ _ (ret Value.none) _ _ _ from wpAny_pure ⟨rfl, h', tk', rfl, hS', fun b o e => ?_⟩)
        have lb : b < s.heap.objs.size := Heap.lt_size e
        refine hm.heap b o (fun z => ?_) (Heap.get?_push_of_some _ (Heap.get?_push_of_some _ e))
        rcases List.mem_cons.mp z with z | z
        · exact absurd z (Nat.ne_of_lt lb)
        · rcases List.mem_cons.mp z with z | z
          · rw [sz] at z
            exact absurd z (Nat.ne_of_lt (Nat.lt_succ_of_lt lb))
          · cases z
    · match r₂, hr₂ with
      | .error e, hr₂ => exact hr₂
      | .ok (.ret r), hr₂ =>
        obtain ⟨rfl, done⟩ := hr₂
        repeat (any_goals (first | assumption | wp_step))
        exact h _ done
end
end Jg

/-! set(words), sorted(set of words), len(set of words) as rules -/
namespace Jg
open PySem PySem.Spec PyProof.Rows L2
/-- the set of the texts zs at a -/
def SetWO (P : Program) (w : World) (a : Addr) (zs : List Str) : HO := .ext fun h => SetW P w h a zs
theorem setW_ok {w : World} {P : Program} {H : Hp} {h : Heap} {a : Addr} {zs : List Str} (R : SetW P w h a zs) : ObjOk P w H h a (SetWO P w a zs) := by
  have ⟨o, _, _, _, ho, _⟩ := R
  exact ⟨R, ⟨o, ho⟩, fun h1 h2 p k => SetW.move p k⟩
section
variable {X : Cx}
theorem setW_get {pins : List (Addr × Obj)} {σ : L2.St} {H : Hp} {s : Shared} {a : Addr} {zs : List Str} (I : Inv X pins σ H s) (e : H a = some (SetWO X.prog X.w a zs)) : SetW X.prog X.w s.heap a zs := (I.hok a _ e).1
/-- set(xs) of a list of texts -/
def rSetW (X : Cx) : List V → Hp → VK → Prop := fun xs H Q => ∃ (a : Addr) (ks : List Str), xs = [.ref a] ∧ SqL X.K H a (ks.map V.str) ∧ ks.length + 1 < scanBound ∧ ∀ p, H p = none → Q (.ref p) (upd H p (SetWO X.prog X.w p (onceW ks)))
theorem strs_at {ks : List Str} : ∀ {us : List Value}, Vals (ks.map V.str) us → us.length = ks.length ∧ ∀ (i : Nat) (v : Value), us[i]? = some v → ∃ z t, ks[i]? = some z ∧ v = .str z t := by
  induction ks with
  | nil =>
    intro us r
    cases r
    exact ⟨rfl, fun i v h => by simp at h⟩
  | cons z ks ih =>
    intro us r
    rw [List.map_cons] at r
    cases r with
    | cons r1 r2 =>
      obtain ⟨t, e⟩ := r1
      obtain ⟨h1, h2⟩ := ih r2
      refine ⟨by rw [List.length_cons, List.length_cons, h1], fun i v h => ?_⟩
      cases i with
      | zero => exact ⟨z, t, rfl, by rw [← e]; exact (Option.some.inj h).symm⟩
      | succ i => exact h2 i v h
theorem cr_setW (hc : X.calm = true) : CallR X (.type "set") (rSetW X) := by
  intro pins s σ H xs us Q I r h
  obtain ⟨a, ks, rfl, hs, few, q⟩ := h
  obtain ⟨u, rfl, ru⟩ := vals1 r
  cases ru
  obtain ⟨its, rv, p, _⟩ := I.list hs
  obtain ⟨ln, at_⟩ := strs_at rv
  refine set_of_words ks (I.ok.hd hc) p.isList (by simpa using ln) (fun i v h => at_ i v (by simpa using h)) few fun s₂ ⟨h', tk, e, R, k⟩ => ?_
  subst e
  exact ⟨.ref s.heap.objs.size, _, I.laid (t' := tk) k (Nat.le_refl _) (setW_ok R), rfl, q _ (I.hok.fresh (Nat.le_refl _))⟩
end
section
variable {P : Program} {w : World} {A : Around} {E : Value → Shared → Prop} {s : Shared} {a : Addr} {zs : List Str}
theorem strs_of : ∀ l : List Value, (∀ v ∈ l, ∃ z t, v = Value.str z t) → ∃ ys : List Str, StrsAre l ys ∧ ∀ f : Value → Str, (∀ z t, f (.str z t) = z) → l.map f = ys
  | [], _ => ⟨[], .nil, fun _ _ => rfl⟩
  | v :: l, h => by
    obtain ⟨z, t, e⟩ := h v List.mem_cons_self
    obtain ⟨ys, h1, h2⟩ := strs_of l fun u hu => h u (List.mem_cons_of_mem _ hu)
    subst e
    exact ⟨z :: ys, .cons z t h1, fun f hf => by rw [List.map_cons, hf, h2 f hf]⟩
def txtOf (v : Value) : Str := match v with | .str z _ => z | _ => Str.empty
theorem sorted_words {Q : Value → Shared → Prop} (R : SetW P w s.heap a zs) (hh : A.handled = none) (few : zs.length < 64)
    (k : ∀ s' p (out : Array Value) (c : Nat) (ys : List Str), (∀ b o, s.heap.get? b = some o → s'.heap.get? b = some o) → s'.gens = s.gens → s'.os = s.os → s.heap.objs.size ≤ p → s'.heap.get? p = some (seqObj "list" out c) → StrsAre out.toList ys → ys.Perm zs → sortedS ys = true → Q (.ref p) s') :
    wpAny (model P w) A (call (.builtin "sorted") [.ref a]) Q E s := by
  obtain ⟨o, es, ep, t, at_, ex, dt, gd, pm, nd, fw, ft, ri, ld⟩ := R
  have small : es.size = zs.length := by
    have q := pm.length_eq
    rw [List.length_map, Array.length_toList] at q
    exact q
  refine Calls.call_function_entry kind_sorted plain_sorted entry_sorted (args_sorted1 _) ?_
  unfold Builtin.«sorted»
  refine wpAny_bind (m := checkCount "sorted" 1 1 _) (wpAny_pure (wpAny_bind (collect_set (A := A.in1) hh ⟨o, at_, ex.1, dt⟩ ft (by rw [small]; exact fw) ri ld fun s1 vs k1 up g1 o1 perm => ?_)))
  have len : vs.length = zs.length := by rw [perm.length_eq, List.length_map, Array.length_toList, small]
  obtain ⟨ys, sa, ym⟩ := strs_of vs fun v hv => by
    obtain ⟨e, he, q⟩ := List.mem_map.mp (perm.mem_iff.mp hv)
    obtain ⟨z, tk, e1, _⟩ := gd e he
    exact ⟨z, tk, by rw [← q]; exact e1⟩
  have py : ys.Perm zs := by
    have q := perm.map txtOf
    rw [ym txtOf fun _ _ => rfl, List.map_map] at q
    exact q.trans pm
  refine wpAny_bind (wpAny_newList ?_ (by rw [len, sizeLine_eq]; omega))
  have new : (s1.heap.push (seqObj "list" vs.toArray 0)).get? s1.heap.objs.size = some (seqObj "list" vs.toArray 0) := Heap.get?_push_size _ rfl
  refine wpAny_bind (wpAny_holding (wpAny_call_entry slot_list_sort ⟨_, new, rfl⟩ entry_list_sort
    (list_sort_treeK strKind_oneLt new sa.keysOf (fun v₁ v₂ rest e => keyKind_strs (by rw [← e]; exact sa)) (by rw [len]; exact few) fun st' hp hs => ⟨_, rfl, ?_⟩) (args_list_sort _)))
  obtain ⟨ss, g2, g3, g4⟩ := sorted_out_str sa hp hs
  obtain ⟨c, hc⟩ := sortedHeap_at (vs := vs) (out := (arrOf st').map (·.2)) new
  refine wpAny_pure ⟨_, rfl, k _ s1.heap.objs.size _ c ss (fun b u e => ?_) g1 o1 up hc g2 (g3.trans py) g4⟩
  have q := k1 b u e
  have lt := Heap.lt_size q
  show (sortedHeap (s1.heap.push (seqObj "list" vs.toArray 0)) s1.heap.objs.size vs _).get? b = some u
  rw [sortedHeap_old (Nat.ne_of_lt lt) (by rw [Heap.size_push]; exact Nat.lt_succ_of_lt lt)]
  exact Heap.get?_push_of_some _ q
end
/-- sorted(words) of a set -/
def rSortW (X : Cx) : List V → Hp → VK → Prop := fun vs H Q => ∃ (a : Addr) (zs : List Str), vs = [V.ref a] ∧ H a = some (SetWO X.prog X.w a zs) ∧ zs.length < 64 ∧ ∀ (ys : List Str) (p : Addr), ys.Perm zs → sortedS ys = true → H p = none → Q (.ref p) (upd H p (.lst (ys.map V.str)))
theorem cr_sortW {X : Cx} (hc : X.calm = true) : CallR X (.builtin "sorted") (rSortW X) := by
  intro pins s σ H vs us Q I r h
  obtain ⟨a, zs, rfl, ha, few, q⟩ := h
  have R := setW_get I ha
  rw [Vals.ref1 r]
  refine sorted_words R (I.ok.hd hc) few fun s' p out c ys k g o up e sa pm so => ?_
  have len : (ys.map V.str).length ≤ sizeLine := by rw [List.length_map, pm.length_eq, sizeLine_eq]; omega
  have nw : H p = none := I.hok.fresh up
  have J : Inv X pins σ (upd H p (.lst (ys.map V.str))) { s with heap := s'.heap, gens := s'.gens, drawn := s'.drawn, toks := s'.toks } :=
    I.call (ch := []) (Un.laid k up nw) (I.hok.laid k up ⟨len, out.toList, c, vals_of_strs sa, e⟩) (by rw [g]; exact I.bare) fun _ z => nomatch z
  have es : s' = { s with heap := s'.heap, gens := s'.gens, drawn := s'.drawn, toks := s'.toks } := by
    cases s'
    cases s
    cases o
    rfl
  rw [es]
  exact ⟨.ref p, _, J, rfl, q ys p pm so nw⟩
/-- len of a set of texts -/
def rLenW (X : Cx) : List V → Hp → VK → Prop := fun xs H Q => ∃ (a : Addr) (zs : List Str), xs = [.ref a] ∧ H a = some (SetWO X.prog X.w a zs) ∧ Q (.int zs.length) H
theorem call_lenW {X : Cx} : CallR X (.builtin "len") (rLenW X) := by
  intro pins s σ H xs us Q I r h
  obtain ⟨a, zs, rfl, ha, q⟩ := h
  rw [Vals.ref1 r]
  obtain ⟨o, es, ep, t, at_, ex, dt, gd, pm, nd, fw, ft, _⟩ := setW_get I ha
  have n : es.size = zs.length := by
    have z := pm.length_eq
    rw [List.length_map, Array.length_toList] at z
    exact z
  have small : scanBound < 2 ^ 62 := by decide
  have e : ((es.size : Nat) : Int) = ((zs.length : Nat) : Int) := by rw [n]
  exact PySem.call_len_set at_ ex dt ft (by rw [n]; omega) (e ▸ ⟨.int zs.length, H, I.tok _, ⟨_, rfl⟩, q⟩)
end Jg

/-! set(words) of a tuple of texts -/
namespace Jg
open PySem PySem.Spec PyProof.Rows L2
section
variable {P : Program} {w : World} {A : Around} {E : Value → Shared → Prop} {s : Shared}
set_option maxHeartbeats 8000000 in
theorem set_of_wordsT {l : Addr} {items : Array Value} (ks : List Str) {Q : Value → Shared → Prop} (hh : A.handled = none) (hl : s.heap.IsTuple l items) (hsz : items.size = ks.length) (hit : ∀ (i : Nat) (v : Value), items[i]? = some v → ∃ z t, ks[i]? = some z ∧ v = .str z t) (hb : ks.length + 1 < scanBound)
    (h : ∀ s₂, WordsDone P w s ks s₂ → Q (.ref s.heap.objs.size) s₂) : wpAny (model P w) A (call (.type "set") [.ref l]) Q E s := by
  obtain ⟨c, tl, hmro⟩ := F.called_set.mro
  have m1 := F.called_set.made
  have m2 := F.called_set.sub
  have m3 := F.called_set.notType
  have m4 := F.called_set.canCreate
  have m5 := F.typeCall_set_1 (.ref l)
  refine wpAny_call (codeAny_of_tree (show wpAny _ _ (callAny (.type "set") _) _ _ _ from wpAny_pure ⟨Code.quiet_builtin _ (by decide +kernel), codeAny_builtin F.entry_type_call ?_⟩))
  rw [Around.under_plain (weight_type_call_type "set" [.ref l] []) rfl]
  repeat (any_goals (first | assumption | wp_step))
  refine codeAny_mono (code_set_led1 (.ref l) (E := E) (Q₁ := fun obj s₁ => obj = .ref s.heap.objs.size ∧ s₁ = { s with heap := s.heap.push (mtSet w) }) ⟨rfl, rfl⟩) fun r s₁ hr => ?_
  match r, hr with
  | .error e, hr => exact hr
  | .ok (.ret obj), hr =>
    obtain ⟨rfl, rfl⟩ := hr
    have new := mt_at w s.heap
    have ty : Shared.TypeIs { s with heap := s.heap.push (mtSet w) } (.ref s.heap.objs.size) "set" := ⟨_, new, rfl⟩
    have m6 := F.called_set.init.lookup
    have m7 := F.called_set.init.bind (.ref s.heap.objs.size)
    repeat (any_goals (first | assumption | wp_step))
    refine codeAny_mono (codeAny_call_builtin (R := wants (fun r s₂ => r = .none ∧ WordsDone P w s ks s₂) E) F.called_set.init.plain F.entry_set_init (check_set_init_1 ty ?_)) fun r₂ s₂ hr₂ => ?_
    · obtain ⟨⟨ocls, odict, odata, oslots⟩, hol, hcl, nl, hdl⟩ := hl
      simp only at hcl hdl
      subst hcl; subst hdl
      have lt : l < s.heap.objs.size := Heap.lt_size hol
      have old : (s.heap.push (mtSet w)).get? l = some { cls := .type "tuple", dict := odict, data := .seq items nl, slots := oslots } := Heap.get?_push_of_some _ hol
      have il : (s.heap.push (mtSet w)).IsTuple l items := ⟨_, old, rfl, nl, rfl⟩
      have n1 := F.sub_tuple_set
      have n2 := F.sub_tuple_frozenset
      have n3 : (Value.type "tuple" == Value.type "dict") = false := by decide
      have sz : (s.heap.push (mtSet w)).objs.size = s.heap.objs.size + 1 := Heap.size_push ..
      unfold Builtin.«set.__init__» noKeywords Builtin.Frozenset.updateFrom
      generalize hPI : pyIter = PI
      wp_walk
      subst hPI
      refine wpAny_pyIter_tuple il (wpAny_bind (wpAny_runValue ?_))
      have apart : l ≠ (s.heap.push (mtSet w)).objs.size := by rw [sz]; exact Nat.ne_of_lt (Nat.lt_succ_of_lt lt)
      refine words_loop (P := P) (w := w) ((Walks.tuple (show A.in1.in1.in1.handled = none by simp [hh]) _ l apart items).toS) (st := s.heap.objs.size) ?_ ks hsz hb hit (items.size - 0) 0 _ (by omega) (Nat.zero_le _)
        ⟨⟨_, Heap.get?_push_size _ rfl, rfl, rfl⟩, il.push _⟩ (setW_new (Heap.get?_push_of_some _ new)) fun s' hm hS' => ?_
      · rw [sz]
        intro z
        rcases List.mem_cons.mp z with z | z
        · exact absurd z (Nat.ne_of_lt (Nat.lt_succ_self _))
        · rcases List.mem_cons.mp z with z | z
          · exact absurd z (Nat.ne_of_gt lt)
          · cases z
      · obtain ⟨h', g2, d', tk', os'⟩ := s'
        obtain rfl : g2 = s.gens := hm.gens
        obtain rfl : d' = s.drawn := hm.drawn
        obtain rfl : os' = s.os := hm.os
        refine wpAny_pure (show wpAny _ _ (ret Value.none) _ _ _ from wpAny_pure ⟨rfl, h', tk', rfl, hS', fun b o e => ?_⟩)
        have lb : b < s.heap.objs.size := Heap.lt_size e
        refine hm.heap b o (fun z => ?_) (Heap.get?_push_of_some _ (Heap.get?_push_of_some _ e))
        rcases List.mem_cons.mp z with z | z
        · exact absurd z (Nat.ne_of_lt lb)
        · rcases List.mem_cons.mp z with z | z
          · rw [sz] at z
            exact absurd z (Nat.ne_of_lt (Nat.lt_succ_of_lt lb))
          · cases z
    · match r₂, hr₂ with
      | .error e, hr₂ => exact hr₂
      | .ok (.ret r), hr₂ =>
        obtain ⟨rfl, done⟩ := hr₂
        repeat (any_goals (first | assumption | wp_step))
        exact h _ done
end
/-- set(x) of a list or a tuple of texts -/
def rSetW2 (X : Cx) : List V → Hp → VK → Prop := fun xs H Q => ∃ (a : Addr) (ks : List Str), xs = [.ref a] ∧ (SqL X.K H a (ks.map V.str) ∨ SqT X.K H a (ks.map V.str)) ∧ ks.length + 1 < scanBound ∧ ∀ p, H p = none → Q (.ref p) (upd H p (SetWO X.prog X.w p (onceW ks)))
theorem cr_setW2 {X : Cx} (hc : X.calm = true) : CallR X (.type "set") (rSetW2 X) := by
  intro pins s σ H xs us Q I r h
  obtain ⟨a, ks, rfl, hs | hs, few, q⟩ := h
  · exact cr_setW hc pins s σ H _ us Q I r ⟨a, ks, rfl, hs, few, q⟩
  · obtain ⟨u, rfl, ru⟩ := vals1 r
    cases ru
    obtain ⟨its, rv, p, _⟩ := I.tuple hs
    obtain ⟨ln, at_⟩ := strs_at rv
    refine set_of_wordsT ks (I.ok.hd hc) p (by simpa using ln) (fun i v h => at_ i v (by simpa using h)) few fun s₂ ⟨h', tk, e, R, k⟩ => ?_
    subst e
    exact ⟨.ref s.heap.objs.size, _, I.laid (t' := tk) k (Nat.le_refl _) (setW_ok R), rfl, q _ (I.hok.fresh (Nat.le_refl _))⟩
end Jg

/-! a list or a tuple is walked -/
namespace Jg
open PySem PySem.Spec PyProof.Rows L2
/-- xs stands at a, as a list (true) or as a tuple -/
def SqE (K : PySem.W.Frag) (b : Bool) (H : Hp) (a : Addr) (xs : List V) : Prop := if b = true then SqL K H a xs else SqT K H a xs
def iEither (K : PySem.W.Frag) (te : TE) : TI := fun σ H R => te σ H fun x H1 => ∃ a b xs, x = .ref a ∧ SqE K b H1 a xs ∧ R (if b = true then Itl K a else Itt K a) H1
theorem pi_either {X : Cx} {tg e : Expr} {te : TE} (he : PE X e te) : PI X tg e (iEither X.K te) := by
  refine ⟨fun pins s σ H R I h => thn (he.run pins s σ H _ I h) fun v t ⟨x, G, J, rx, a, b, xs, e1, sq, q⟩ => ?_⟩
  subst e1
  cases rx
  have old : ∀ c o, t.heap.get? c = some o → (t.heap.push { cls := .type "list_iterator", data := .fields #[.ref a, .int 0 0] }).get? c = some o := fun c o z => Heap.get?_push_of_some _ z
  have fp : ∀ c, c ∈ [t.heap.objs.size] → FpOk X pins G c := fun c hc => by
    rw [List.mem_singleton.mp hc]
    exact J.fpOk (Nat.le_refl _) (J.hok.fresh (Nat.le_refl _))
  cases b with
  | true =>
    obtain ⟨us, rv, at_, _⟩ := J.list (show SqL X.K G a xs from sq)
    exact wpAny_pyIter_list at_.isList ⟨t.heap.objs.size, [t.heap.objs.size], _, _, G, rfl, J.kept (t' := t.toks) fun c o z => Heap.get?_push_of_some _ z, turn_list a _, ⟨_, Heap.get?_push_size _ rfl, rfl, rfl⟩, fp, q⟩
  | false =>
    obtain ⟨us, rv, at_, _⟩ := J.tuple (show SqT X.K G a xs from sq)
    exact wpAny_pyIter_tuple (show t.heap.IsTuple a us.toArray from at_) ⟨t.heap.objs.size, [t.heap.objs.size], _, _, G, rfl, J.kept (t' := t.toks) fun c o z => Heap.get?_push_of_some _ z, turn_tuple a _, ⟨_, Heap.get?_push_size _ rfl, rfl, rfl⟩, fp, q⟩
theorem lc_either {K : PySem.W.Frag} {b : Bool} {a : Addr} {xs : List V} {g : TG} {tt : TT} {te : TE} {vs : List Nat} {σ : L2.St} {H1 : Hp} {D : Addr} {Qd : Hp → Prop} (Pv : Nat → Hp → Prop) (h0 : Pv 0 (upd H1 D (.lst []))) (hl : ∀ i H, i ≤ xs.length → Pv i H → SqE K b H a xs)
    (hs : ∀ i x H, xs[i]? = some x → Pv i H → g x (wipe σ vs) H fun σ2 H2 => wipe σ2 vs = wipe σ vs ∧ tt σ2 H2 fun k H3 =>
      if k = true then te σ2 H3 fun y H4 => ∃ acc, H4 D = some (.lst acc) ∧ acc.length < sizeLine ∧ Pv (i + 1) (upd H4 D (.lst (acc ++ [y]))) else Pv (i + 1) H3) (hd : ∀ H, Pv xs.length H → Qd H) :
    ∃ W : Nat → Nat → Hp → Prop, (∃ m, W 0 m (upd H1 D (.lst []))) ∧ ∀ i m H, W i m H →
      ((if b = true then Itl K a else Itt K a).stop i H ∧ Qd H) ∨ ((if b = true then Itl K a else Itt K a).go i H ∧ ∃ Nx : Hp → Prop, (∀ H', Nx H' → ∃ m', m' < m ∧ W (i + 1) m' H') ∧ ∀ x H', (if b = true then Itl K a else Itt K a).yld i H x H' → g x (wipe σ vs) H' fun σ2 H2 => wipe σ2 vs = wipe σ vs ∧ tt σ2 H2 fun k H3 =>
        if k = true then te σ2 H3 fun y H4 => ∃ acc, H4 D = some (.lst acc) ∧ acc.length < sizeLine ∧ Nx (upd H4 D (.lst (acc ++ [y]))) else Nx H3) := by
  cases b with
  | true => exact lc_list (K := K) (a := a) (xs := xs) Pv h0 hl hs hd
  | false => exact lc_tup (K := K) (a := a) (xs := xs) Pv h0 hl hs hd
end Jg

/-! the one sorted list of some texts -/
namespace Jg
open PySem PySem.Spec PyProof.Rows
/-- x is behind y -/
def bef (x y : Str) : Bool := !ltCps y.cps.toList x.cps.toList
theorem bef_iff {x y : Str} : bef x y = true ↔ ¬ y.cps.toList < x.cps.toList := by
  unfold bef
  rw [ltCps_eq]
  simp
theorem bef_refl (x : Str) : bef x x = true := bef_iff.mpr (List.lt_irrefl _)
theorem bef_total (x y : Str) : bef x y = true ∨ bef y x = true := by
  rcases Decidable.em (y.cps.toList < x.cps.toList) with h | h
  · exact .inr (bef_iff.mpr fun q => List.lt_irrefl _ (List.lt_trans h q))
  · exact .inl (bef_iff.mpr h)
theorem bef_anti {x y : Str} (h1 : bef x y = true) (h2 : bef y x = true) : x = y := by
  have a := bef_iff.mp h1
  have b := bef_iff.mp h2
  have e : x.cps.toList = y.cps.toList := List.le_antisymm (List.not_lt.mp a) (List.not_lt.mp b)
  have c : x.cps = y.cps := Array.ext' e
  cases x; cases y; cases c; rfl
theorem bef_trans {x y z : Str} (h1 : bef x y = true) (h2 : bef y z = true) : bef x z = true := by
  have a := List.not_lt.mp (bef_iff.mp h1)
  have b := List.not_lt.mp (bef_iff.mp h2)
  exact bef_iff.mpr (List.not_lt.mpr (List.le_trans a b))
theorem rising_pw : ∀ (l : List Str) (p : Str), risingS p l = true → (p :: l).Pairwise fun x y => bef x y = true
  | [], p, _ => List.pairwise_singleton _ _
  | x :: r, p, h => by
    have h' : (bef p x && risingS x r) = true := h
    rw [Bool.and_eq_true] at h'
    have ih := rising_pw r x h'.2
    refine List.pairwise_cons.mpr ⟨fun y hy => ?_, ih⟩
    rcases List.mem_cons.mp hy with e | hy
    · rw [e]; exact h'.1
    · exact bef_trans h'.1 ((List.pairwise_cons.mp ih).1 y hy)
theorem sorted_pw {l : List Str} (h : sortedS l = true) : l.Pairwise fun x y => bef x y = true := by
  cases l with
  | nil => exact .nil
  | cons x r => exact rising_pw r x h
theorem pw_sorted {l : List Str} (h : l.Pairwise fun x y => bef x y = true) : sortedS l = true :=
  sortedS_of_pairwise l (h.imp fun {a b} q => by
    have q' : (!ltCps b.cps.toList a.cps.toList) = true := q
    simpa using q')
theorem pw_uniq : ∀ {l m : List Str}, l.Pairwise (fun x y => bef x y = true) → m.Pairwise (fun x y => bef x y = true) → l.Perm m → l = m
  | [], m, _, _, p => (List.nil_perm.mp p).symm
  | x :: r, [], _, _, p => absurd p (by simp)
  | x :: r, y :: t, h1, h2, p => by
    have e : x = y := by
      have hx : x ∈ y :: t := p.mem_iff.mp (List.mem_cons_self ..)
      have hy : y ∈ x :: r := p.mem_iff.mpr (List.mem_cons_self ..)
      rcases List.mem_cons.mp hx with e | hx
      · exact e
      · rcases List.mem_cons.mp hy with e | hy
        · exact e.symm
        · exact bef_anti ((List.pairwise_cons.mp h1).1 y hy) ((List.pairwise_cons.mp h2).1 x hx)
    subst e
    rw [pw_uniq (List.pairwise_cons.mp h1).2 (List.pairwise_cons.mp h2).2 (List.Perm.cons_inv p)]
def srtW (l : List Str) : List Str := l.mergeSort bef
theorem srtW_perm (l : List Str) : (srtW l).Perm l := List.mergeSort_perm l bef
theorem bef_total' (x y : Str) : (bef x y || bef y x) = true := by rw [Bool.or_eq_true]; exact bef_total x y
theorem srtW_sorted (l : List Str) : sortedS (srtW l) = true := by
  have h : (l.mergeSort bef).Pairwise fun x y => bef x y = true := by
    first
      | exact List.pairwise_mergeSort (le := bef) (fun _ _ _ h1 h2 => bef_trans h1 h2) bef_total' l
      | exact List.sorted_mergeSort (le := bef) (fun _ _ _ h1 h2 => bef_trans h1 h2) bef_total' l
  exact pw_sorted h
theorem srt_eq {l m : List Str} (s : sortedS l = true) (p : l.Perm m) : l = srtW m := pw_uniq (sorted_pw s) (sorted_pw (srtW_sorted m)) (p.trans (srtW_perm m).symm)
theorem srtW_congr {l m : List Str} (p : l.Perm m) : srtW l = srtW m := srt_eq (srtW_sorted l) ((srtW_perm l).trans p)
theorem srtW_len (l : List Str) : (srtW l).length = l.length := (srtW_perm l).length_eq
theorem srtW_mem {l : List Str} {x : Str} : x ∈ srtW l ↔ x ∈ l := (srtW_perm l).mem_iff
theorem srtW_nodup {l : List Str} : (srtW l).Nodup ↔ l.Nodup := (srtW_perm l).nodup_iff
end Jg

/-! a == b of two dicts whose values are data without dicts: both answers -/
namespace Jg
open PySem PySem.Spec PyProof.Rows L2
/-- small enough to be compared -/
def Sh40 (d : PyData) : Prop := d.canLay0 = true ∧ d.depth ≤ 40
/-- the data of a dict's values -/
def DvK (K : PySem.W.Frag) (H : Hp) (ks : List (Key × V)) (da : List (Key × PyData)) : Prop := Paired (fun p q => p.1 = q.1 ∧ Dp K H p.2 q.2 ∧ Sh40 q.2) ks da
def look : List (Key × PyData) → Key → Option PyData
  | [], _ => none
  | p :: r, k => if p.1 = k then some p.2 else look r k
def eqvD (da db : List (Key × PyData)) : Bool := da.length == db.length && da.all fun p => match look db p.1 with | none => false | some e => PyData.eqv p.2 e
section
variable {K : PySem.W.Frag} {H : Hp}
theorem dv_look {ks : List (Key × V)} {da : List (Key × PyData)} (h : DvK K H ks da) (k : Key) : (valV ks k = none ∧ look da k = none) ∨ ∃ v d, valV ks k = some v ∧ look da k = some d ∧ Dp K H v d ∧ Sh40 d := by
  unfold DvK at h
  induction h with
  | nil => exact .inl ⟨rfl, rfl⟩
  | @cons p q ps qs r _ ih =>
    obtain ⟨e, hd, sh⟩ := r
    by_cases c : p.1 = k
    · refine .inr ⟨p.2, q.2, valV_pos c, ?_, hd, sh⟩
      show (if q.1 = k then some q.2 else look qs k) = _
      rw [if_pos (e ▸ c)]
    · have l : look (q :: qs) k = look qs k := by
        show (if q.1 = k then some q.2 else look qs k) = _
        rw [if_neg (e ▸ c)]
      rw [valV_neg c, l]
      exact ih
end
section
variable {X : Cx} {pins : List (Addr × Obj)} {σ : L2.St} {H : Hp} {s : Shared} {A : Around}
theorem hits_data (I : Inv X pins σ H s) (hu : A.units + 40 < cLine) {ls : List (Key × V)} {vb : List (Key × Value)} {db : List (Key × PyData)} (rb : KV ls vb) (hb : DvK X.K H ls db) : ∀ {ks : List (Key × V)} {va : List (Key × Value)} {da : List (Key × PyData)}, KV ks va → DvK X.K H ks da →
    PySem.W.KeqHitsP X.prog X.w A s vb va (da.all fun p => match look db p.1 with | none => false | some e => PyData.eqv p.2 e) := by
  intro ks va da ra ha
  unfold KV at ra
  unfold DvK at ha
  induction ra generalizing da with
  | nil => cases ha; exact .nil
  | @cons p q ps qs h t ih =>
    cases ha with
    | @cons _ d _ ds hd td =>
    obtain ⟨e1, r1⟩ := h
    obtain ⟨e2, dp, sh⟩ := hd
    obtain ⟨qk, qv⟩ := q
    have ek : p.1 = qk := e1
    rw [List.all_cons]
    have rv := rb.val p.1
    rcases dv_look hb p.1 with ⟨n1, n2⟩ | ⟨v, d2, n1, n2, dp2, sh2⟩
    · rw [← e2, n2]
      rw [n1] at rv
      have z : valueAt vb qk = none := by
        rw [← ek]
        cases c : valueAt vb p.1 with
        | none => rfl
        | some y => rw [c] at rv; exact absurd rv (by intro q; cases q)
      exact .miss z
    · rw [← e2, n2]
      rw [n1] at rv
      obtain ⟨y, hy, ry⟩ := rv.some_of
      rw [ek] at hy
      obtain ⟨as, R1⟩ := Dp.reads I d.2 p.2 qv dp r1
      obtain ⟨bs, R2⟩ := Dp.reads I d2 v y dp2 ry
      have eq : SeqAt.EqAt A s qv y (PyData.eqv d.2 d2) := SeqAt.eqAt_reads d.2 d2 A s qv y as bs R1 R2 sh.1 sh2.1 (Nat.lt_of_le_of_lt (Nat.add_le_add_left (Nat.le_trans (Nat.min_le_left _ _) sh.2) _) hu)
      exact .hit hy eq.eqP (ih td)
end
def rEqDD (K : PySem.W.Frag) : R2 := fun x y H Q => ∃ a b ks ls da db, x = .ref a ∧ y = .ref b ∧ H a = some (.dK ks) ∧ H b = some (.dK ls) ∧ DvK K H ks da ∧ DvK K H ls db ∧ Q (.bl (eqvD da db)) H
theorem op_eqDD {X : Cx} (hu : X.A.units + 64 < cLine) : OpR X (compareOp .Eq) (rEqDD X.K) := by
  intro pins s σ H x y v u Q I rx ry h
  obtain ⟨a, b, ks, ls, da, db, rfl, rfl, ha, hb, dva, dvb, q⟩ := h
  cases (show v = Value.ref a from rx)
  cases (show u = Value.ref b from ry)
  obtain ⟨_, ya, va, ra, doa⟩ := (show ObjOk X.prog X.w H s.heap a (.dK ks) from I.hok a _ ha)
  obtain ⟨_, yb, vb, rb, dob⟩ := (show ObjOk X.prog X.w H s.heap b (.dK ls) from I.hok b _ hb)
  refine PySem.W.rcP_dicts (knd := mixKind X.prog X.w) ya yb doa dob (by omega) (fun _ => hits_data I (A := X.A.in1) (by show X.A.units + 1 + 40 < cLine; omega) rb dvb ra dva) _ _ ?_
  have l1 : va.length = da.length := by rw [← Paired.length ra, Paired.length dva]
  have l2 : vb.length = db.length := by rw [← Paired.length rb, Paired.length dvb]
  rw [l1, l2]
  exact ⟨.bl _, H, I, rfl, q⟩
end Jg

/-! lists of texts as data; in, == of them -/
namespace Jg
open PySem PySem.Spec PyProof.Rows L2
def okW (z : Str) : Prop := PyData.strOk z = true
theorem lay_strs : ∀ xs : List Str, (∀ z ∈ xs, okW z) → PyData.canLayAll0 (xs.map PyData.str) = true
  | [], _ => rfl
  | x :: xs, h => by
    show (PyData.canLay0 (.str x) && PyData.canLayAll0 (xs.map PyData.str)) = true
    rw [lay_strs xs fun z hz => h z (List.mem_cons_of_mem _ hz)]
    have e : PyData.canLay0 (.str x) = true := by
      have := h x (List.mem_cons_self ..)
      unfold okW at this
      simp [PyData.canLay0, this]
    rw [e]; rfl
theorem depth_strs : ∀ xs : List Str, PyData.depthAll (xs.map PyData.str) = 0
  | [] => rfl
  | x :: xs => by
    show max (PyData.depth (.str x)) (PyData.depthAll (xs.map PyData.str)) = 0
    rw [depth_strs xs]; rfl
theorem shaped_strs {xs : List Str} (h : ∀ z ∈ xs, okW z) : SeqAt.shaped (.list (xs.map PyData.str)) = true := by
  show (PyData.canLayAll0 (xs.map PyData.str) && decide (PyData.depthAll (xs.map PyData.str) + 1 ≤ 64)) = true
  rw [lay_strs xs h, depth_strs]; rfl
theorem eqv_str (x y : Str) : PyData.eqv (.str x) (.str y) = decide (x = y) := by
  by_cases c : x = y
  · subst c; simp [PyData.eqv]
  · simp [PyData.eqv, c]
theorem eqvAll_strs : ∀ xs ys : List Str, PyData.eqvAll (xs.map PyData.str) (ys.map PyData.str) = decide (xs = ys)
  | [], [] => rfl
  | [], y :: ys => rfl
  | x :: xs, [] => rfl
  | x :: xs, y :: ys => by
    have ih := eqvAll_strs xs ys
    show (PyData.eqv (.str x) (.str y) && PyData.eqvAll (xs.map PyData.str) (ys.map PyData.str)) = _
    rw [ih, eqv_str]
    by_cases c : x = y
    · subst c
      by_cases d : xs = ys
      · subst d; simp
      · simp [d]
    · simp [c]
theorem eqv_strs (xs ys : List Str) : PyData.eqv (.list (xs.map PyData.str)) (.list (ys.map PyData.str)) = decide (xs = ys) := by
  rw [PyData.eqv]; exact eqvAll_strs xs ys
theorem dpAll_strs {K : PySem.W.Frag} {H : Hp} : ∀ xs : List Str, DpAll K H (xs.map V.str) (xs.map PyData.str)
  | [] => .nil
  | x :: xs => .cons (.str x) (dpAll_strs xs)
theorem dp_strs {K : PySem.W.Frag} {H : Hp} {a : Addr} {xs : List Str} (h : SqL K H a (xs.map V.str)) : Dp K H (.ref a) (.list (xs.map PyData.str)) := .lst h (dpAll_strs xs)
theorem ask_eqS {K : PySem.W.Frag} {H : Hp} {a b : Addr} {xs ys : List Str} {Q : VK} (h1 : SqL K H a (xs.map V.str)) (h2 : SqL K H b (ys.map V.str)) (k1 : ∀ z ∈ xs, okW z) (k2 : ∀ z ∈ ys, okW z) (q : Q (.bl (decide (xs = ys))) H) : rEqD K (.ref a) (.ref b) H Q :=
  ⟨_, _, dp_strs h1, dp_strs h2, shaped_strs k1, shaped_strs k2, by rw [eqv_strs]; exact q⟩
theorem ask_neS {K : PySem.W.Frag} {H : Hp} {a b : Addr} {xs ys : List Str} {Q : VK} (h1 : SqL K H a (xs.map V.str)) (h2 : SqL K H b (ys.map V.str)) (k1 : ∀ z ∈ xs, okW z) (k2 : ∀ z ∈ ys, okW z) (q : Q (.bl (!decide (xs = ys))) H) : rNeD K (.ref a) (.ref b) H Q :=
  ⟨_, _, dp_strs h1, dp_strs h2, shaped_strs k1, shaped_strs k2, by rw [eqv_strs]; exact q⟩
/-- z in a list of texts -/
theorem inV_strs {m : Str} : ∀ {xs : List Str}, inV (.str m) (xs.map V.str) = decide (m ∈ xs)
  | [] => rfl
  | x :: xs => by
    have ih := inV_strs (m := m) (xs := xs)
    show (eqV (.str x) (.str m) || inV (.str m) (xs.map V.str)) = _
    rw [ih]
    have e : eqV (.str x) (.str m) = decide (x = m) := by
      by_cases c : x = m
      · subst c; simp [eqV]
      · simp [eqV, c]
    rw [e]
    by_cases c : x = m
    · subst c; simp
    · have c' : ¬ m = x := fun z => c z.symm
      simp [c, c']
theorem flat_strs : ∀ {xs : List Str}, (xs.map V.str).all flatV = true
  | [] => rfl
  | x :: xs => by
    show (flatV (.str x) && (xs.map V.str).all flatV) = true
    rw [flat_strs]; rfl
theorem ask_inS {K : PySem.W.Frag} {H : Hp} {a : Addr} {xs : List Str} {m : Str} {Q : VK} (h : SqL K H a (xs.map V.str)) (q : Q (.bl (decide (m ∈ xs))) H) : rIn K false (.str m) (.ref a) H Q :=
  ⟨a, _, rfl, .inl h, rfl, flat_strs, by
    show Q (.bl (inV (.str m) (xs.map V.str))) H
    rw [inV_strs]; exact q⟩
theorem ask_notInS {K : PySem.W.Frag} {H : Hp} {a : Addr} {xs : List Str} {m : Str} {Q : VK} (h : SqL K H a (xs.map V.str)) (q : Q (.bl (!decide (m ∈ xs))) H) : rIn K true (.str m) (.ref a) H Q :=
  ⟨a, _, rfl, .inl h, rfl, flat_strs, by
    show Q (.bl (!inV (.str m) (xs.map V.str))) H
    rw [inV_strs]; exact q⟩
theorem map_catS {K : PySem.W.Frag} {H : Hp} {a : Addr} {xs ys : List Str} (h : SqL K H a (xs.map V.str ++ ys.map V.str)) : SqL K H a ((xs ++ ys).map V.str) := by rw [List.map_append]; exact h
/-- plain texts may be laid -/
theorem okW_ascii {z : Str} (h : PySem.Txt.isascii z = true) : okW z := by
  unfold PySem.Txt.isascii at h
  unfold okW PyData.strOk
  rw [← Array.all_toList, List.all_eq_true] at h ⊢
  intro c hc
  have := of_decide_eq_true (h c hc)
  exact decide_eq_true (by omega)
/-! one sorted list within another -/
theorem sub_sorted : ∀ {m l : List Str}, m.Pairwise (fun x y => bef x y = true) → l.Pairwise (fun x y => bef x y = true) → l.Nodup → (∀ x ∈ l, x ∈ m) → l.Sublist m
  | [], l, _, _, _, h => by
    cases l with
    | nil => exact .slnil
    | cons x r => exact absurd (h x (List.mem_cons_self ..)) (by simp)
  | y :: t, [], _, _, _, _ => List.nil_sublist _
  | y :: t, x :: r, hm, hl, nd, h => by
    obtain ⟨hm1, hm2⟩ := List.pairwise_cons.mp hm
    obtain ⟨hl1, hl2⟩ := List.pairwise_cons.mp hl
    obtain ⟨nx, nr⟩ := List.nodup_cons.mp nd
    by_cases e : x = y
    · subst e
      refine (sub_sorted hm2 hl2 nr fun z hz => ?_).cons_cons x
      rcases List.mem_cons.mp (h z (List.mem_cons_of_mem _ hz)) with e | k
      · rw [e] at hz; exact absurd hz nx
      · exact k
    · refine List.Sublist.cons y (sub_sorted hm2 hl nd fun z hz => ?_)
      rcases List.mem_cons.mp (h z hz) with e2 | k
      · -- z = y would stand ahead of x
        subst e2
        rcases List.mem_cons.mp hz with e3 | hz'
        · exact absurd e3.symm e
        · have hx : x ∈ t := (List.mem_cons.mp (h x (List.mem_cons_self ..))).resolve_left e
          exact absurd (bef_anti (hl1 z hz') (hm1 x hx)) e
      · exact k
theorem eq_sorted {l m : List Str} (hm : sortedS m = true) (hl : sortedS l = true) (nd : l.Nodup) (h : ∀ x ∈ l, x ∈ m) (len : l.length = m.length) : l = m :=
  (sub_sorted (sorted_pw hm) (sorted_pw hl) nd h).eq_of_length len
end Jg

/-! C(e, .., k = v, ..) that may raise, at the slots as they stand; methods without arguments -/
namespace Jg
open PySem PySem.Spec PyProof.Rows L2
structure MakN (P : Program) (w : World) (K : PySem.W.Frag) (mg : Str → Option Value) (base : Heap) (CX : CXT) (k : Nat) (x : Str) (C : Addr) (n : Nat) (ks : List Str) (gV : List V → List V → List V) (sp : Sp) : Prop where
  mg_ : mg x = some (.ref C)
  mks : PySem.W.makesIn K C = true
  kp : PySem.W.keepIn K (.ref C) = true
  ex : ∃ f fd ps g, FnOk P w K mg base CX k f fd ps sp ∧ PySem.W.findIn K (.ref C) "__init__" = some (some (.ref f)) ∧ PySem.W.isFn K (.ref f) = true ∧ KBn K fd ps (n + 1) ks g gV
def tMakeNS (C : Addr) (n m : Nat) (sp : Sp) (gV : List V → List V → List V) (E : L2.St → XK) (t tk : TA) : TE := fun σ H Q => t σ H fun vs H1 => tk σ H1 fun zs H2 => vs.length = n ∧ zs.length = m ∧ ∀ x dx, H2 x = none → H2 dx = none → dx ≠ x →
  sp (gV (.ref x :: vs) zs) (upd (upd H2 dx (.own x)) x (.ins C dx [])) (fun v H3 => v = .non ∧ Q (.ref x) H3) (E σ)
section
variable {X : Cx} {k j n : Nat} {C : Addr} {ks : List Str} {sp : Sp} {x : Str} {p pos : Pos} {kws : List Keyword} {e : Expr} {es : List Expr} {t ta : TA} {gV : List V → List V → List V} {W : WX}
theorem pe_mkNS (c : MakN X.prog X.w X.K X.mg X.base (L2.CX X.prog X.w) k x C n ks gV sp) (tk : Takes X W) (hr : Room j X.A) (hk : k + 1 ≤ j) (hg : Gl X x) (ha : PA X (e :: es) t) (hkw : PK X kws ta)
    (hall : (backToKw pos (keywordEach kws X.env)).all (·.1.isSome) = true := by rfl) (hks : (backToKw pos (keywordEach kws X.env)).filterMap (·.1) = ks := by rfl) (hdb : (x == ("__debug__" : Str)) = false := by decide)
    (he : starEach (e :: es) X.env = (false, eval e X.env) :: starEach es X.env := by rfl) (hpl : ((backTo pos (starEach (e :: es) X.env)).any (·.1) || (backToKw pos (keywordEach kws X.env)).any (·.1.isNone)) = false := by rfl) :
    PE X (.Call (.Name x p) (e :: es) kws pos) (tMakeNS C n ks.length sp gV (WE W) t ta) := by
  obtain ⟨f, fd, ps, g, F, ini, fn, b⟩ := c.ex
  refine ⟨fun pins s σ H Q I h => wpAny_Call_Name_kw (ld_glob I hg c.mg_ (PySem.W.callWith_KW (h₀ := X.base) I.ok.mod.kin c.kp hall (thn (ha.run pos pins s σ H _ I h) fun us s1 ⟨vs, H1, I1, r, q⟩ => ?_) hpl he) hdb)⟩
  refine thn (hkw.run pos pins s1 σ H1 _ I1 q) fun ws s2 ⟨zs, H2, J, rz, l1, l2, q⟩ => ⟨J.kIn, ?_⟩
  rw [hks]
  let m := s2.heap.objs.size
  have q1 := q (m + 1) m (J.hok.fresh (Nat.le_succ _)) (J.hok.fresh (Nat.le_refl _)) (Nat.ne_of_lt (Nat.lt_succ_self _))
  have J2 := Inv.made (C := C) J
  have r1 : Vals (V.ref (m + 1) :: vs) (Value.ref (m + 1) :: us) := .cons rfl r
  have n1 : (Value.ref (m + 1) :: us).length = n + 1 := by
    rw [List.length_cons, ← r.length, l1]
  have run := F.run _ X.stack _ _ ⟨Value.ref (m + 1) :: us, ks.zip ws⟩ _ _ _ (WE W σ) ((hr.mono hk).make C us (ks.zip ws)) (J2.env0.make C us (ks.zip ws)) (b.to _ (Value.ref (m + 1) :: us) ws J2.kIn n1 (rz.length.symm.trans l2)) (b.rel r1 rz) q1
  show wpAny (model X.prog X.w) X.A (call (.ref C) us (ks.zip ws)) (EP X pins σ Q) X.xe s2
  refine wpAny_call (make_map (f := f) J.kIn c.mks ini (beq_iff_eq.mp fn) (codeAny_mono run fun o s3 z => ?_))
  match o, z with
  | .error err, z => exact passAt tk σ pins _ _ err s3 J2 z
  | .ok (.ret u), z =>
    obtain ⟨v, H3, J3, rv, ev, q3⟩ := J2.after z
    subst ev
    exact ⟨rv, V.ref (m + 1), H3, J3, rfl, q3⟩
end
section
variable {P : Program} {w : World} {K : PySem.W.Frag} {mg : Str → Option Value} {base : Heap} {k : Nat} {C : Addr} {x qual : Str} {st : Stmt} {N ps ks : List Str} {kws : List (Str × V)} {sp : Sp}
theorem IniK.makN (D : IniK K C qual st kws) (m : mg x = some (.ref C)) (mk : PySem.W.makesIn K C = true) (kp : PySem.W.keepIn K (.ref C) = true) (S : FnScope N ps (defScope st)) (len : ∀ vs H Q E, sp vs H Q E → vs.length = ps.length) (n : Nat)
    (ms : List (Str × V)) (g : {α : Type} → List α → List α → List α → List α) (hk : kws ≠ []) (hms : ∀ q ∈ ms, q ∈ kws) (hrel : ∀ {vs mz zs : List V} {us mv ws : List Value}, Vals vs us → Vals mz mv → Vals zs ws → Vals (g vs mz zs) (g us mv ws))
    (hb : ∀ (D : Addr) (doc pm : Value) (an : Option Addr) (cdv ct : Value) (us mv ws : List Value), us.length = n + 1 → mv.length = ms.length → ws.length = ks.length →
      KwChain D ((ms.map (·.1)).zip mv) (bindArgs (PySem.W.fnOf "__init__" qual (defArgs st) (defBody st) (defScope st) .none (.ref D) doc pm an cdv ct) ⟨us, ks.zip ws⟩) (ps.zip (g us mv ws)))
    (body : ∀ f, BodyX P w K mg base N qual st f k sp) : MakN P w K mg base (L2.CX P w) (k + 1) x C n ks (fun vs zs => g vs (ms.map (·.2)) zs) sp :=
  let ⟨f, fd, F, a, i⟩ := D.ex
  let ⟨mv, b⟩ := F.kbinds0 (n + 1) ks ms g hk hms hrel hb
  ⟨m, mk, kp, f, fd, ps, _, F.ok S len (body f), a, i, b⟩
end
/-! ### o.m() -/
def tMeth0S (C : Addr) (m : Str) (sp : Sp) (E : L2.St → XK) (ta : TE) : TE := fun σ H Q => ta σ H fun x H1 => ∃ a dx fs, x = .ref a ∧ H1 a = some (.ins C dx fs) ∧ fs.lookup m = none ∧ sp [.ref a] H1 Q (E σ)
section
variable {X : Cx} {k j : Nat} {C : Addr} {x m : Str} {sp : Sp} {W : WX} {p pos apos : Pos} {o : Expr} {ta : TE}
theorem pe_mz {pl : Sem Bool} (c : Met X.prog X.w X.K X.mg X.base CX0 k C m sp) (cl : Cls X.K C) (hr : Room j X.A) (hk : k ≤ j) (he : PE X o ta)
    (ht : eval (.Call (.Attribute o m apos) [] [] pos) X.env = (do
      let ov ← eval o X.env
      standAt apos.atName
      let (f, first) ← holding [ov] (getMethod ov m pl)
      callWith pos f first (backTo pos (starEach [] X.env)) (backToKw pos (keywordEach [] X.env))) := by rfl) :
    PE X (.Call (.Attribute o m apos) [] [] pos) (tMeth C m sp [] E0 ta tNil) := by
  obtain ⟨f, fd, ps, F, a, i, kp, b⟩ := c.ex
  exact pe_meth0 (pl := pl) he cl ⟨a, i, kp⟩ F (hr.mono hk) b .nil pass0 ht
theorem pe_mzS {pl : Sem Bool} (c : Met X.prog X.w X.K X.mg X.base (L2.CX X.prog X.w) k C m sp) (cl : Cls X.K C) (tk : Takes X W) (hr : Room j X.A) (hk : k ≤ j) (he : PE X o ta)
    (ht : eval (.Call (.Attribute o m apos) [] [] pos) X.env = (do
      let ov ← eval o X.env
      standAt apos.atName
      let (f, first) ← holding [ov] (getMethod ov m pl)
      callWith pos f first (backTo pos (starEach [] X.env)) (backToKw pos (keywordEach [] X.env))) := by rfl) :
    PE X (.Call (.Attribute o m apos) [] [] pos) (tMeth0S C m sp (WE W) ta) := by
  obtain ⟨f, fd, ps, F, at_, i, kp, b⟩ := c.ex
  refine ⟨fun pins s σ H Q I h => PySem.W.methodCall_KW (pl := pl) (thn (he.run pins s σ H _ I h) fun u s1 ⟨x, H1, I1, rx, a, dx, fs, ex, ea, l, q⟩ => ?_) ht⟩
  subst ex
  obtain rfl : u = Value.ref a := rx
  refine getmeth_ok I1 ea cl ⟨at_, i, kp⟩ l ?_
  exact PySem.W.callWith_K0 (first := [.ref a]) I1.kIn kp (run_fnS (E := WE W) (us := [.ref a]) (vs := [.ref a]) F (hr.mono hk) b (passAt tk σ) I1 (.cons rfl .nil) q)
end
end Jg

/-! sum(a list of lists, a list) -/
namespace Jg
open PySem PySem.Spec PyProof.Rows L2
theorem args_sum2 (a b : Value) : argsOk "sum" ⟨[a, b], []⟩ := by unfold argsOk; kernel_rfl
theorem sub_list_bytearray : isSubtype (.type "list") (.type "bytearray") = pure false := by rw [isSubtype_type]; kernel_rfl
/-- a plain list -/
def PlL (h : Heap) (a : Addr) (its : List Value) : Prop := ∃ n, h.get? a = some { cls := .type "list", data := .seq its.toArray n }
section
variable {P : Program} {w : World} {A : Around} {E : Value → Shared → Prop} {s : Shared}
theorem lists_loop {it st : Addr} {fp wr : List Addr} {G : Array GenState → Array GenState → Prop} {m : Nat} {Pv : Nat → Value → Prop} {At : Nat → Shared → Prop} {R : Result → Shared → Prop} (T : WalksS P w A.in1 it fp wr G m Pv At) (off : st ∉ fp) (ls : List (Addr × List Value)) (em : m = ls.length)
    (vals : ∀ i v, Pv i v → ∃ p, ls[i]? = some p ∧ v = .ref p.1) (apart : ∀ p ∈ ls, p.1 ∉ st :: wr) (base : List Value) (few : (base ++ ls.flatMap (·.2)).length ≤ sizeLine) (hAt : ∀ i s, At i s → ∀ b ∈ wr, ∃ o, s.heap.get? b = some o) :
    ∀ (left i : Nat) (s : Shared) (t : Addr) (c : Nat), m - i = left → i ≤ m → At i s → (∀ p ∈ ls, PlL s.heap p.1 p.2) → PlL s.heap t (base ++ (ls.take i).flatMap (·.2)) → t ∉ st :: wr →
      s.heap.get? st = some { cls := .type "list", dict := none, data := .seq #[.ref t] c, slots := #[] } →
      (∀ q t', Moved (st :: wr) G s q → PlL q.heap t' (base ++ ls.flatMap (·.2)) → (t' = t ∧ i = m ∨ st < t') → R (.ok (.ret (.ref t'))) q) →
      codeAny (model P w) A (.builtin "sum.loop" ⟨[.ref it, .ref st, rawInt 2, rawInt 0], []⟩) R s := by
  have offw : st ∉ wr := fun z => off (T.sub _ z)
  have up : ∀ b ∈ wr, b ∈ st :: wr := fun _ z => List.mem_cons_of_mem _ z
  intro left
  induction left with
  | zero =>
    intro i s t c e le at_ L Lt nt eS k
    obtain rfl : i = m := by omega
    refine codeAny_builtin F.entry_sum_loop ?_
    rw [Around.under_plainId F.plain_sum_loop _]
    show wpAny _ A.in1 (seqItems? (.ref st) >>= _) _ _ s
    refine wpAny_bind (wpAny_seqItems eS rfl ?_)
    show wpAny _ A.in1 (tryCatch (pyNext (.ref it)) _ >>= _) _ _ s
    refine wpAny_bind (wpAny_tryCatch (T.done s _ _ at_ fun q mv => ?_))
    have all : ls.take i = ls := List.take_of_length_le (by omega)
    rw [all] at Lt
    obtain ⟨n, et⟩ := Lt
    have mv' := mv.mono up
    exact wpAny_pure (k q t mv' ⟨n, mv'.heap _ _ nt et⟩ (.inl ⟨rfl, rfl⟩))
  | succ left ih =>
    intro i s t c e le at_ L Lt nt eS k
    have lt : i < m := by omega
    refine codeAny_builtin F.entry_sum_loop ?_
    rw [Around.under_plainId F.plain_sum_loop _]
    show wpAny _ A.in1 (seqItems? (.ref st) >>= _) _ _ s
    refine wpAny_bind (wpAny_seqItems eS rfl ?_)
    show wpAny _ A.in1 (tryCatch (pyNext (.ref it)) _ >>= _) _ _ s
    refine wpAny_bind (wpAny_tryCatch (T.item i s _ _ lt at_ fun v q pv at2 mv => ?_))
    obtain ⟨p, ep, rfl⟩ := vals i v pv
    have hp := List.mem_of_getElem? ep
    have mv' := mv.mono up
    have eS2 := mv.heap st _ offw eS
    obtain ⟨n, et⟩ := Lt
    have et2 := mv'.heap _ _ nt et
    have L2' : ∀ p ∈ ls, PlL q.heap p.1 p.2 := fun p hp => let ⟨n, e⟩ := L p hp; ⟨n, mv'.heap _ _ (apart p hp) e⟩
    obtain ⟨n2, ev⟩ := L2' p hp
    have tk : ls.take (i + 1) = ls.take i ++ [p] := by rw [List.take_succ, ep]; rfl
    have nx : base ++ (ls.take (i + 1)).flatMap (·.2) = (base ++ (ls.take i).flatMap (·.2)) ++ p.2 := by rw [tk, List.flatMap_append, List.append_assoc]; simp
    have sz : (base ++ (ls.take (i + 1)).flatMap (·.2)).length ≤ sizeLine := by
      have e2 : ls = ls.take (i + 1) ++ ls.drop (i + 1) := (List.take_append_drop _ _).symm
      have f := few
      rw [e2, List.flatMap_append] at f
      simp only [List.length_append] at f ⊢
      omega
    rw [nx, List.length_append] at sz
    show wpAny _ A.in1 ((holding [Value.ref p.1] (binaryOp .Add (.ref t) (.ref p.1))).attempt >>= _) _ _ q
    have stlt : st < q.heap.objs.size := Heap.lt_size eS2
    have szw : ∀ b ∈ wr, b < q.heap.objs.size := fun b hb => let ⟨o, e⟩ := hAt _ _ at2 b hb; Heap.lt_size e
    · refine wpAny_bind (wpAny_attempt (wpAny_holding (PySem.P.add_list et2 ev ?_ (by rw [List.size_toArray, List.size_toArray]; exact sz))))
      have ea : (base ++ (ls.take i).flatMap (·.2)).toArray ++ p.2.toArray = (base ++ (ls.take (i + 1)).flatMap (·.2)).toArray := by rw [nx]; simp
      rw [ea]
      let h1 := q.heap.push { cls := .type "list", data := .seq (base ++ (ls.take (i + 1)).flatMap (·.2)).toArray }
      have grown : ∀ b o, q.heap.get? b = some o → h1.get? b = some o := fun b o z => Heap.get?_push_of_some _ z
      have eS3 : h1.get? st = some { cls := .type "list", dict := none, data := .seq #[.ref t] c, slots := #[] } := grown _ _ eS2
      show wpAny _ A.in1 (updateSeq st (fun _ => #[.ref q.heap.objs.size]) >>= _) _ _ { q with heap := h1 }
      refine wpAny_bind (wpAny_updateSeq (s := { q with heap := h1 }) eS3 rfl ?_)
      have eS4 := Heap.get?_update_self (Obj.mapSeq fun _ => #[Value.ref q.heap.objs.size]) eS3 rfl
      refine wpAny_bind (wpAny_letGo ?_)
      refine wpAny_bind (wpAny_updateSeq (s := { q with heap := h1.update st (Obj.mapSeq fun _ => #[Value.ref q.heap.objs.size]) }) eS4 rfl ?_)
      have eS5 := Heap.get?_update_self (Obj.mapSeq fun _ => #[Value.ref q.heap.objs.size]) eS4 rfl
      let h3 := (h1.update st (Obj.mapSeq fun _ => #[Value.ref q.heap.objs.size])).update st (Obj.mapSeq fun _ => #[Value.ref q.heap.objs.size])
      have still : ∀ b, b ≠ st → ∀ o, h1.get? b = some o → h3.get? b = some o := fun b n o z => (Heap.get?_update_other _ _ fun e => n e.symm).trans ((Heap.get?_update_other _ _ fun e => n e.symm).trans z)
      have newA : h1.get? q.heap.objs.size = some { cls := .type "list", data := .seq (base ++ (ls.take (i + 1)).flatMap (·.2)).toArray } := Heap.get?_push_size _ rfl
      refine wpAny_pure ⟨plainId_quiet F.plain_sum_loop _, ih (i + 1) { q with heap := h3 } q.heap.objs.size _ (by omega) lt (T.frame _ q _ _ at2 (Nat.le_refl _) fun b hb o z => still b (fun n => off (n ▸ hb)) o (grown _ _ z))
        (fun r hr => let ⟨n, e⟩ := L2' r hr; ⟨n, still _ (fun z => apart r hr (z ▸ List.mem_cons_self)) _ (grown _ _ e)⟩) ⟨0, still _ (Nat.ne_of_gt stlt) _ newA⟩ (fun z => ?_) eS5 fun y t' mv2 Ly fr => ?_⟩
      · rcases List.mem_cons.mp z with z | z
        · exact absurd z (Nat.ne_of_gt stlt)
        · exact absurd (szw _ z) (Nat.lt_irrefl _)
      · refine k y t' (Moved.trans T.gtrans (mv'.then_heap (Nat.le_refl _) fun b o hb z => still b (fun n => hb (n ▸ List.mem_cons_self)) o (grown _ _ z)) mv2) Ly (.inr ?_)
        rcases fr with ⟨rfl, _⟩ | h
        · exact stlt
        · exact h
/-- what stands behind the sum -/
abbrev SumDone (s : Shared) (out : List Value) (t : Addr) (s₂ : Shared) : Prop :=
  ∃ h' tk, s₂ = { s with heap := h', toks := tk } ∧ PlL h' t out ∧ s.heap.objs.size ≤ t ∧ ∀ b o, s.heap.get? b = some o → h'.get? b = some o
theorem sum_of_lists {l b : Addr} {items : Array Value} {Q : Value → Shared → Prop} (hh : A.handled = none) (hl : s.heap.IsList l items) (ls : List (Addr × List Value)) (ez : items.size = ls.length) (hit : ∀ (i : Nat) (v : Value), items[i]? = some v → ∃ p, ls[i]? = some p ∧ v = .ref p.1)
    (L : ∀ p ∈ ls, PlL s.heap p.1 p.2) (base : List Value) (B : PlL s.heap b base) (ne : 0 < ls.length) (few : (base ++ ls.flatMap (·.2)).length ≤ sizeLine) (h : ∀ s₂ t, SumDone s (base ++ ls.flatMap (·.2)) t s₂ → Q (.ref t) s₂) :
    wpAny (model P w) A (call (.builtin "sum") [.ref l, .ref b]) Q E s := by
  refine call_function_tree F.kind_sum F.plain_sum F.entry_sum (args_sum2 _ _) ?_
  unfold Builtin.«sum»
  simp only [List.length_cons, List.length_nil]
  rw [if_neg (by decide)]
  refine wpAny_bind (wpAny_of_eq (show Builtin.Builtins.bindParams "sum" ["start"] 0 ⟨[.ref b], []⟩ = pure [some (.ref b)] from rfl) ?_)
  obtain ⟨⟨ocls, odict, odata, oslots⟩, hol, hcl, nl, hdl⟩ := hl
  simp only at hcl hdl
  subst hcl; subst hdl
  have lt : l < s.heap.objs.size := Heap.lt_size hol
  refine wpAny_bind (wpAny_pyIter_list ⟨_, hol, rfl, nl, rfl⟩ ?_)
  have grown1 : ∀ c o, s.heap.get? c = some o → (s.heap.push { cls := .type "list_iterator", data := .fields #[.ref l, .int 0 0] }).get? c = some o := fun c o z => Heap.get?_push_of_some _ z
  obtain ⟨nb, eb⟩ := id B
  have tyb : Shared.TypeIs { s with heap := s.heap.push { cls := .type "list_iterator", data := .fields #[.ref l, .int 0 0] } } (.ref b) "list" := ⟨_, grown1 _ _ eb, rfl⟩
  show wpAny _ _ (pure ((Value.ref b, (2 : Int))) >>= _) _ _ _
  refine wpAny_bind (wpAny_pure ?_)
  simp only [List.forIn_cons, List.forIn_nil]
  refine wpAny_bind (wpAny_bind (wpAny_bind (wpAny_isInstance (T := "list") (b := false) tyb F.sub_list_str ?_)))
  simp only [Bool.false_eq_true, if_false]
  refine wpAny_pure (wpAny_bind (wpAny_bind (wpAny_isInstance (T := "list") (b := false) tyb F.sub_list_bytes ?_)))
  simp only [Bool.false_eq_true, if_false]
  refine wpAny_pure (wpAny_bind (wpAny_bind (wpAny_isInstance (T := "list") (b := false) tyb sub_list_bytearray ?_)))
  simp only [Bool.false_eq_true, if_false]
  refine wpAny_pure (wpAny_pure ?_)
  refine wpAny_bind (wpAny_newObj_type ?_)
  let h1 := s.heap.push { cls := .type "list_iterator", data := .fields #[.ref l, .int 0 0] }
  have sz1 : h1.objs.size = s.heap.objs.size + 1 := Heap.size_push ..
  have grown2 : ∀ c o, s.heap.get? c = some o → (h1.push { cls := .type "list", data := .seq #[.ref b] }).get? c = some o := fun c o z => Heap.get?_push_of_some _ (grown1 _ _ z)
  have apart : l ≠ s.heap.objs.size := Nat.ne_of_lt lt
  have old : ∀ {c : Addr} {o : Obj}, s.heap.get? c = some o → c ∉ [h1.objs.size, s.heap.objs.size] := fun {c o} z m => by
    have z1 := Heap.lt_size z
    rcases List.mem_cons.mp m with m | m
    · rw [sz1] at m
      exact Nat.ne_of_lt (Nat.lt_succ_of_lt z1) m
    · rcases List.mem_cons.mp m with m | m
      · exact Nat.ne_of_lt z1 m
      · cases m
  refine wpAny_pure ⟨plainId_quiet F.plain_sum_loop _, lists_loop (P := P) (w := w) (Walks.list (show A.in1.handled = none by simp [hh]) s.heap.objs.size l apart items).toS (st := h1.objs.size) ?_ ls ez hit (fun p hp => let ⟨n, e⟩ := L p hp; old e) base few ?_ (items.size - 0) 0 _ b 0 (by omega) (Nat.zero_le _)
    ⟨⟨_, Heap.get?_push_of_some _ (Heap.get?_push_size _ rfl), rfl, rfl⟩, ⟨_, grown2 _ _ hol, rfl, nl, rfl⟩⟩ (fun p hp => let ⟨n, e⟩ := L p hp; ⟨n, grown2 _ _ e⟩) ⟨nb, by simpa using grown2 _ _ eb⟩ (old eb) (Heap.get?_push_size _ rfl) fun q t' mv Lq fr => ?_⟩
  · intro z
    rcases List.mem_cons.mp z with z | z
    · rw [sz1] at z
      exact Nat.ne_of_gt (Nat.lt_succ_self _) z
    · rcases List.mem_cons.mp z with z | z
      · rw [sz1] at z
        exact Nat.ne_of_gt (Nat.lt_succ_of_lt lt) z
      · cases z
  · rintro i s' ⟨⟨o, e, _⟩, _⟩ c hc
    obtain rfl := List.mem_singleton.mp hc
    exact ⟨o, e⟩
  · obtain ⟨h', g2, d', tk', os'⟩ := q
    obtain rfl : g2 = s.gens := mv.gens
    obtain rfl : d' = s.drawn := mv.drawn
    obtain rfl : os' = s.os := mv.os
    refine h _ t' ⟨h', tk', rfl, Lq, ?_, fun c o e => mv.heap c o (old e) (grown2 _ _ e)⟩
    rcases fr with ⟨_, z⟩ | z
    · exact absurd z (by have := ne; omega)
    · rw [sz1] at z
      exact Nat.le_of_lt (Nat.lt_trans (Nat.lt_succ_self _) z)
end
/-- sum(xs, ys): xs a list of lists, ys a list -/
def rSumL (K : PySem.W.Frag) : List V → Hp → VK → Prop := fun vs H Q => ∃ (l b : Addr) (ls : List (Addr × List V)) (base : List V), vs = [.ref l, .ref b] ∧ SqL K H l (ls.map fun p => V.ref p.1) ∧ (∀ p ∈ ls, H p.1 = some (.lst p.2)) ∧ H b = some (.lst base) ∧ 0 < ls.length ∧ (base ++ ls.flatMap (·.2)).length ≤ sizeLine ∧
  ∀ p, H p = none → Q (.ref p) (upd H p (.lst (base ++ ls.flatMap (·.2))))
theorem cr_sumL {X : Cx} (hc : X.calm = true) : CallR X (.builtin "sum") (rSumL X.K) := by
  intro pins s σ H vs us Q I r h
  obtain ⟨l, b, ls, base, rfl, sq, el, eb, ne, few, q⟩ := h
  obtain ⟨its, rv, hl, _⟩ := I.list sq
  have h1 := rv.length
  match us, r with
  | [u1, u2], .cons r1 (.cons r2 .nil) =>
    cases (show u1 = Value.ref l from r1)
    cases (show u2 = Value.ref b from r2)
    -- the lists, as they stand
    obtain ⟨zb, ib, nb, rb, lb, ebh⟩ := I.lstM eb
    have each : ∀ ls : List (Addr × List V), (∀ p ∈ ls, H p.1 = some (.lst p.2)) → ∃ ms : List (Addr × List Value), ms.map (·.1) = ls.map (·.1) ∧ (∀ p ∈ ms, PlL s.heap p.1 p.2) ∧ Vals (ls.flatMap (·.2)) (ms.flatMap (·.2)) := by
      intro ls
      induction ls with
      | nil => intro _; exact ⟨[], rfl, (fun _ h => nomatch h), .nil⟩
      | cons p t ih =>
        intro h
        obtain ⟨ms, e1, e2, e3⟩ := ih fun q hq => h q (List.mem_cons_of_mem _ hq)
        obtain ⟨_, ip, np, rp, _, ep⟩ := I.lstM (h p (List.mem_cons_self ..))
        refine ⟨(p.1, ip) :: ms, by rw [List.map_cons, List.map_cons, e1], fun q hq => ?_, ?_⟩
        · rcases List.mem_cons.mp hq with e | hq
          · rw [e]; exact ⟨np, ep⟩
          · exact e2 q hq
        · rw [List.flatMap_cons, List.flatMap_cons]
          exact rp.append e3
    obtain ⟨ms, e1, e2, e3⟩ := each ls el
    have lms : ms.length = ls.length := by simpa using congrArg List.length e1
    have rall : Vals (base ++ ls.flatMap (·.2)) (ib ++ ms.flatMap (·.2)) := rb.append e3
    have la := rall.length
    refine sum_of_lists (I.ok.hd hc) hl.isList ms (by rw [List.size_toArray, ← h1, List.length_map, lms]) (fun i v hv => ?_) e2 ib ⟨nb, ebh⟩ (by omega) (by omega) fun s₂ t ⟨h', tk, es, Lt, fr, kept⟩ => ?_
    · have hv' : its[i]? = some v := by simpa using hv
      have lt : i < ms.length := by
        rcases Nat.lt_or_ge i ms.length with h | h
        · exact h
        · have n := List.getElem?_eq_none (l := its) (i := i) (by rw [← h1, List.length_map]; omega)
          rw [n] at hv'; cases hv'
      have em : ms[i]? = some ms[i] := List.getElem?_eq_getElem lt
      have el2 : (ls.map fun p => V.ref p.1)[i]? = some (V.ref ms[i].1) := by
        have z : (ls.map (·.1))[i]? = some ms[i].1 := by rw [← e1, List.getElem?_map, em]; rfl
        rw [List.getElem?_map] at z ⊢
        cases c : ls[i]? with
        | none => rw [c] at z; cases z
        | some p => rw [c] at z; exact congrArg some (congrArg V.ref (Option.some.inj z))
      obtain ⟨u, hu, ru⟩ := rv.get el2
      rw [hv'] at hu
      cases hu
      exact ⟨ms[i], em, ru⟩
    · subst es
      obtain ⟨n, et⟩ := Lt
      exact ⟨.ref t, upd H t (.lst (base ++ ls.flatMap (·.2))), I.laid (t' := tk) kept fr ⟨few, _, n, rall, et⟩, rfl, q _ (I.hok.fresh fr)⟩
end Jg

/-! sorted(a list of data) -/
namespace Jg
open PySem PySem.Spec PyProof.Rows L2
/-- the sorted values -/
def srtV (bs : List (V × PyData)) : List V := (bs.mergeSort (PySem.W.dataLe false Prod.snd)).map Prod.fst
def rSortD (K : PySem.W.Frag) : List V → Hp → VK → Prop := fun vs H Q => ∃ (a : Addr) (bs : List (V × PyData)), vs = [.ref a] ∧ SqL K H a (bs.map Prod.fst) ∧ (∀ b ∈ bs, Dp K H b.1 b.2 ∧ b.2.depth ≤ 40) ∧ PySem.W.AllAlike (bs.map Prod.snd) ∧ PySem.W.Sortable (bs.map Prod.snd) ∧
  ∀ p, H p = none → Q (.ref p) (upd H p (.lst (srtV bs)))
theorem each_vals : ∀ {us : List Value} {bs : List (V × PyData)}, PySem.W.EachIs (fun v b => RelV b.1 v) us bs → Vals (bs.map Prod.fst) us
  | _, _, .nil => .nil
  | _, _, .cons r t => .cons r (each_vals t)
section
variable {X : Cx} {pins : List (Addr × Obj)} {σ : L2.St} {H : Hp} {s : Shared}
theorem vals_each (I : Inv X pins σ H s) : ∀ {us : List Value} {bs : List (V × PyData)}, Vals (bs.map Prod.fst) us → (∀ b ∈ bs, Dp X.K H b.1 b.2 ∧ b.2.depth ≤ 40) → PySem.W.EachIs (fun v b => RelV b.1 v) us bs ∧ PySem.W.EachIs (fun v b => ∃ as, Reads s.heap v b.2 as) us bs
  | us, [], r, _ => by cases r; exact ⟨.nil, .nil⟩
  | us, b :: bs, r, h => by
    have r' : Vals (b.1 :: bs.map Prod.fst) us := r
    cases r' with
    | cons r1 r2 =>
      obtain ⟨e1, e2⟩ := vals_each I r2 fun q hq => h q (List.mem_cons_of_mem _ hq)
      exact ⟨.cons r1 e1, .cons (Dp.reads I b.2 b.1 _ (h b (List.mem_cons_self ..)).1 r1) e2⟩
end
theorem cr_sortD {X : Cx} (hu : X.A.units + 64 < cLine) : CallR X (.builtin "sorted") (rSortD X.K) := by
  intro pins s σ H vs us Q I r h
  obtain ⟨a, bs, rfl, sq, dp, al, so, q⟩ := h
  obtain ⟨its, rv, hl, len⟩ := I.list sq
  rw [Vals.ref1 r]
  obtain ⟨e1, e2⟩ := vals_each I rv dp
  rw [List.length_map] at len
  refine PySem.W.sorted_data (enc := Prod.snd) (R := fun v b => RelV b.1 v) hl.isList e1 e2 al so len (fun b hb => by have := (dp b hb).2; omega) fun out lo eo => ?_
  obtain ⟨ep, he'⟩ := PyProof.Rows.sortedAll_at s.heap its out.toArray
  have hlen : (srtV bs).length ≤ sizeLine := by
    unfold srtV
    rw [List.length_map, List.length_mergeSort]; exact len
  exact ⟨.ref _, upd H (s.heap.objs.size + 1) (.lst (srtV bs)), I.laid (t' := s.toks) (fun _ _ => PyProof.Rows.sortedAll_old) (Nat.le_succ _) ⟨hlen, out, ep, each_vals eo, by simpa using he'⟩, rfl, q _ (I.hok.fresh (Nat.le_succ _))⟩
/-! ### rows by their first text -/
theorem dataLt_first {a b : Str} {xs ys : List PyData} (h : a ≠ b) : PySem.W.dataLt (.tuple (.str a :: xs)) (.tuple (.str b :: ys)) = decide (a.cps.toList < b.cps.toList) := by
  rw [PySem.W.dataLt_tuple, PySem.W.dataLt_all_no (x := .str a) (y := .str b) (by simp [PySem.W.alike]) (by rw [eqv_str]; exact decide_eq_false h), PySem.W.dataLt_str]
theorem bef_dec (x y : Str) : bef x y = !decide (y.cps.toList < x.cps.toList) := by unfold bef; rw [ltCps_eq]
theorem nd_inj {α β : Type} {z : α → β} : ∀ {rows : List α} {a b : α}, (rows.map z).Nodup → a ∈ rows → b ∈ rows → z a = z b → a = b
  | p :: t, a, b, nd, ha, hb, e => by
    rw [List.map_cons, List.nodup_cons] at nd
    rcases List.mem_cons.mp ha with ea | ha
    · rcases List.mem_cons.mp hb with eb | hb
      · rw [ea, eb]
      · exact absurd (List.mem_map.mpr ⟨b, hb, by rw [← e, ea]⟩) nd.1
    · rcases List.mem_cons.mp hb with eb | hb
      · exact absurd (List.mem_map.mpr ⟨a, ha, by rw [e, eb]⟩) nd.1
      · exact nd_inj nd.2 ha hb e
/-- some rows, each with a text of its own, sorted as data -/
theorem srtV_rows {α : Type} {rows : List α} {z : α → Str} {v : α → V} {rest : α → List PyData} (nd : (rows.map z).Nodup) :
    srtV (rows.map fun r => (v r, PyData.tuple (.str (z r) :: rest r))) = (rows.mergeSort fun r q => bef (z r) (z q)).map v ∧ (rows.mergeSort fun r q => bef (z r) (z q)).map z = srtW (rows.map z) := by
  have key : ∀ a ∈ rows, ∀ b ∈ rows, bef (z a) (z b) = PySem.W.dataLe false (Prod.snd : V × PyData → PyData) (v a, PyData.tuple (.str (z a) :: rest a)) (v b, PyData.tuple (.str (z b) :: rest b)) := by
    intro a ha b hb
    by_cases e : z a = z b
    · have eab : a = b := nd_inj nd ha hb e
      subst eab
      rw [bef_refl]
      have t := (PySem.W.sortLe_total (PyProof.Rows.listOrd PyProof.Rows.itemOrd) false fun b : V × PyData => PySem.W.keyToks b.2).refl (v a, PyData.tuple (.str (z a) :: rest a))
      exact t.symm
    · show _ = !PySem.W.dataLt (.tuple (.str (z b) :: rest b)) (.tuple (.str (z a) :: rest a))
      rw [dataLt_first (fun h => e h.symm), bef_dec]
  constructor
  · unfold srtV
    rw [← PySem.W.sort_maps (fun r => (v r, PyData.tuple (.str (z r) :: rest r))) key, List.map_map]
    rfl
  · exact PySem.W.sort_maps z fun a _ b _ => rfl
end Jg

/-! isinstance(e, (A, B)) of a caught exception; a try in a loop -/
namespace Jg
open PySem PySem.Spec PyProof.Rows L2
def rIsXT (K : PySem.W.Frag) (cls : Value) (C a : Addr) (d : Option Addr) : List V → Hp → VK → Prop := fun xs H Q => ∃ (tp : Addr) (cs : List V) (us : List Value) (b : Bool) (dd : Addr) (fs : List (Str × V)), xs = [.ref a, .ref tp] ∧ H tp = some (.tup cs) ∧ Paired ClsV cs us ∧ cls = .ref C ∧ d = some dd ∧ H dd = some (.xd fs) ∧ PySem.W.kitAny K (.ref C) us = some b ∧ Q (.bl b) H
theorem kAny2 {K : PySem.W.Frag} {t c1 c2 : Value} {b1 b2 : Bool} (h1 : PySem.W.kitOne K t c1 = some b1) (h2 : PySem.W.kitOne K t c2 = some b2) : PySem.W.kitAny K t [c1, c2] = some (b1 || b2) := by
  show (match PySem.W.kitOne K t c1 with | some true => some true | some false => PySem.W.kitAny K t [c2] | none => none) = _
  rw [h1]
  cases b1 with
  | true => rfl
  | false =>
    show (match PySem.W.kitOne K t c2 with | some true => some true | some false => some false | none => none) = _
    rw [h2]
    cases b2 <;> rfl
section
variable {X : Cx} {a C : Addr} {oe : Obj} {cls : Value} {d : Option Addr} {pn : List (Addr × Obj)}
theorem call_isXT (T : ExcK X.K C) (hz : Zc cls d oe) (hf : ∃ vs, oe.data = .fields vs) : CallR (X.suite a ((a, oe) :: pn)) (.builtin "isinstance") (rIsXT X.K cls C a d) := by
  intro pins s σ H xs us Q I r h
  obtain ⟨tp, cs, ws, b, dd, fs, rfl, hT, k0, rfl, rfl, e, k, q⟩ := h
  obtain ⟨u1, u2, rfl, r1, r2⟩ := vals2 r
  cases (show u1 = Value.ref a from r1)
  cases (show u2 = Value.ref tp from r2)
  obtain ⟨_, its, rv, o, h1, h2, n, h3⟩ := (show ObjOk X.prog X.w H s.heap tp (.tup cs) from I.hok tp _ hT)
  have e3 := ClsV.all k0 rv
  subst e3
  obtain ⟨od, J⟩ := exc_inst I hz hf e
  have cl : (PySem.W.clsIn X.K C).isSome = true := by
    obtain ⟨cd, z, _⟩ := PySem.W.any_some T.xf.hdC
    rw [z]; rfl
  obtain ⟨oc, od2, dt, sl⟩ := o
  simp only at h2 h3
  subst h2 h3
  exact PySem.W.kia_tup (PySem.W.kitx_exc cl T.xf.ga T.xf.gg T.xf.exC T.ha T.hn T.ht T.hm) I.kIn J h1 k (fun z => nomatch z) fun tk => ⟨.bl b, H, I.kept (t' := tk) fun _ _ z => z, rfl, q⟩
end
/-- a try in a loop: its reading by a name -/
def tTry (tb : WX → TS) (w : Ends → WX) : TS := fun D σ H => tb (w D) D σ H
theorem ps_tryT {X : Cx} {Wout : WX} {body : List Stmt} {h₀ : ExceptHandler} {hds : List ExceptHandler} {w : Ends → WX} {pos : Pos} {tb : WX → TS} (hd : Hds X Wout (h₀ :: hds) w) (hs : X.stack = X.env :: X.outer) (fr : X.env.frame = some X.env.locals) (hN : X.N.Nodup) (tk : Takes X Wout)
    (hb : ∀ (W : WX) (pn : List (Addr × Obj)) (xe : Value → Shared → Prop), Takes (X.tr pn xe) W → PassesOwn (model X.prog X.w) X.A X.env xe → PSs (X.tr pn xe) body (tb W)) :
    PS X (.Try body (h₀ :: hds) [] [] pos) (tTry tb w) := ps_try hd hs fr hN tk hb
end Jg

/-! repr of a list among whose items are dicts of data -/
namespace Jg
open PySem PySem.Spec PyProof.Rows L2
def keyD : Key → PyData
  | .inl i => .int i
  | .inr x => .str x
def kvD (da : List (Key × PyData)) : List (PyData × PyData) := da.map fun p => (keyD p.1, p.2)
/-- a dict's values are data -/
def DvL (K : PySem.W.Frag) (H : Hp) (ks : List (Key × V)) (da : List (Key × PyData)) : Prop := Paired (fun p q => p.1 = q.1 ∧ Dp K H p.2 q.2) ks da
inductive Dq (K : PySem.W.Frag) (H : Hp) : V → PyData → Prop
  | dat {v : V} {d : PyData} (h : Dp K H v d) : Dq K H v d
  | dic {a : Addr} {ks : List (Key × V)} {da : List (Key × PyData)} (h : H a = some (.dK ks)) (dv : DvL K H ks da) : Dq K H (.ref a) (.dict (kvD da))
inductive DqAll (K : PySem.W.Frag) (H : Hp) : List V → List PyData → Prop
  | nil : DqAll K H [] []
  | cons {v : V} {vs : List V} {d : PyData} {ds : List PyData} : Dq K H v d → DqAll K H vs ds → DqAll K H (v :: vs) (d :: ds)
def rRpL (K : PySem.W.Frag) : List V → Hp → VK → Prop := fun xs H Q => ∃ a vs ds, xs = [.ref a] ∧ SqL K H a vs ∧ DqAll K H vs ds ∧ PyData.showableAll ds = true ∧ PyData.depthAll ds ≤ 40 ∧ (PyData.list ds).shown.length ≤ sizeLine ∧ Q (.str (PyData.list ds).shown) H
theorem noD_keys : ∀ da : List (Key × PyData), PyData.hasDictAll ((kvD da).map (·.1)) = false
  | [] => rfl
  | p :: r => by
    have ih := noD_keys r
    obtain ⟨k, d⟩ := p
    show (PyData.hasDict (keyD k) || PyData.hasDictAll ((kvD r).map (·.1))) = false
    rw [ih]
    cases k <;> rfl
theorem noD_all {K : PySem.W.Frag} {H : Hp} {ks : List (Key × V)} {da : List (Key × PyData)} (dv : DvL K H ks da) : PyData.hasDictAll ((kvD da).map (·.2)) = false := by
  unfold DvL at dv
  induction dv with
  | nil => rfl
  | @cons p q ps qs r _ ih =>
    show (PyData.hasDict q.2 || PyData.hasDictAll ((kvD qs).map (·.2))) = false
    rw [ih, noDict _ _ _ _ r.2]; rfl
section
variable {X : Cx} {pins : List (Addr × Obj)} {σ : L2.St} {H : Hp} {s : Shared}
theorem reads_keys {P : Program} {w : World} {h : Heap} {K : PySem.W.Frag} : ∀ {es : List DictEntry} {kvs : List (Key × Value)} {ks : List (Key × V)} {da : List (Key × PyData)}, Pairs (mixKind P w) es kvs → KV ks kvs → DvL K H ks da → ∃ as, ReadsAll h (es.map (·.key)) ((kvD da).map (·.1)) as := by
  intro es kvs ks da p
  induction p generalizing ks da with
  | nil =>
    intro kv dv
    cases kv
    cases dv
    exact ⟨_, ReadsAll.nil⟩
  | @cons e kv es kvs hk hv _ ih =>
    intro r dv
    cases r with
    | cons r1 r2 =>
      cases dv with
      | cons d1 d2 =>
        obtain ⟨as, R⟩ := ih r2 d2
        rename_i p0 _ q0 _
        have e1 : q0.1 = kv.1 := d1.1.symm.trans r1.1
        obtain ⟨kk, dd⟩ := q0
        subst e1
        rcases keyIs_shape hk with ⟨i, t, e2, e3⟩ | ⟨x, t, e2, e3⟩
        · refine ⟨_, ReadsAll.cons (as := []) ?_ R⟩
          show Reads h e.key (keyD kv.1) []
          rw [e3, e2]; exact Reads.int i t
        · refine ⟨_, ReadsAll.cons (as := []) ?_ R⟩
          show Reads h e.key (keyD kv.1) []
          rw [e3, e2]; exact Reads.str x t
theorem reads_vals (I : Inv X pins σ H s) {P : Program} {w : World} : ∀ {es : List DictEntry} {kvs : List (Key × Value)} {ks : List (Key × V)} {da : List (Key × PyData)}, Pairs (mixKind P w) es kvs → KV ks kvs → DvL X.K H ks da → ∃ as, ReadsAll s.heap (es.map (·.val)) ((kvD da).map (·.2)) as := by
  intro es kvs ks da p
  induction p generalizing ks da with
  | nil =>
    intro kv dv
    cases kv
    cases dv
    exact ⟨_, ReadsAll.nil⟩
  | @cons e kv es kvs hk hv _ ih =>
    intro r dv
    cases r with
    | cons r1 r2 =>
      cases dv with
      | cons d1 d2 =>
        obtain ⟨as, R⟩ := ih r2 d2
        obtain ⟨bs, R1⟩ := Dp.reads I _ _ _ d1.2 r1.2
        refine ⟨_, ReadsAll.cons (as := bs) ?_ R⟩
        show Reads s.heap e.val _ bs
        rw [hv]; exact R1
/-- a value is shown under a list -/
theorem dq_shown (I : Inv X pins σ H s) {v : V} {d : PyData} {u : Value} (h : Dq X.K H v d) (r : RelV v u) (sh : d.showable = true) (z : d.shown.length ≤ sizeLine) :
    ∃ as bs, Reads s.heap u d as ∧ ReadAtMost s.heap d.depth bs ∧ ReprK X.prog X.w bs s.heap d.depth u d.shown := by
  cases h with
  | dat h =>
    obtain ⟨as, R⟩ := Dp.reads I d v u h r
    obtain ⟨bs, b1, b2⟩ := ReprK.of_reads (prog := X.prog) (w := X.w) R sh (PyData.noDict_hsm (noDict _ _ _ _ h)) z
    exact ⟨as, bs, R, b1, b2⟩
  | @dic a ks da ha dv =>
    cases r
    obtain ⟨_, ya, va, ra, o, es, n, h1, ex, h3, _, pr, _⟩ := (show ObjOk X.prog X.w H s.heap a (.dK ks) from I.hok a _ ha)
    have h2 := ex.1
    obtain ⟨as, r1⟩ := reads_keys (h := s.heap) pr ra dv
    obtain ⟨bs, r2⟩ := reads_vals I pr ra dv
    have R : Reads s.heap (.ref a) (.dict (kvD da)) _ := .dict h1 h2 h3 r1 r2
    have zz : (dictText (PyData.shownKv (kvD da))).length ≤ sizeLine := by simpa only [PyData.shown] using z
    obtain ⟨sk, sv⟩ := PyData.showableKv_split (kvD da) (by simpa only [PyData.showable] using sh)
    obtain ⟨c1, m1, k1⟩ := ReprAllK.of_readsAll (prog := X.prog) (w := X.w) r1 sk (fun q => by rw [noD_keys] at q; cases q) fun t ht => by
      obtain ⟨p, hp, hl⟩ := PyData.shownKv_key_le _ t ht
      exact Nat.le_trans hl (Nat.le_trans (dictText_mem_le hp) zz)
    obtain ⟨c2, m2, k2⟩ := ReprAllK.of_readsAll (prog := X.prog) (w := X.w) r2 sv (fun q => by rw [noD_all dv] at q; cases q) fun t ht => by
      obtain ⟨p, hp, hl⟩ := PyData.shownKv_val_le _ t ht
      exact Nat.le_trans hl (Nat.le_trans (dictText_mem_le hp) zz)
    have m : ReadAtMost s.heap (PyData.depthKv (kvD da)) (c1 ++ c2) := ReadAtMost.append (m1.mono (PyData.depthAll_keys_le _)) (m2.mono (PyData.depthAll_vals_le _))
    have na : a ∉ c1 ++ c2 := not_mem_of_deeper R (by simp only [PyData.depth]; omega) m
    refine ⟨_, a :: (c1 ++ c2), R, ReadAtMost.cons R (by simp only [PyData.depth]; omega) m, ?_⟩
    simp only [PyData.depth, PyData.shown, PyData.shownKv_eq]
    exact ReprK.dict h1 h2 h3 ya na (ReprEntriesK.of_two es.toList _ _ (k1.more_le (fun _ q => List.mem_append_left _ q) (PyData.depthAll_keys_le _)) (k2.more_le (fun _ q => List.mem_append_right _ q) (PyData.depthAll_vals_le _)))
theorem dqs_shown (I : Inv X pins σ H s) : ∀ {vs : List V} {ds : List PyData} {us : List Value}, DqAll X.K H vs ds → Vals vs us → PyData.showableAll ds = true → (∀ t ∈ PyData.shownAll ds, t.length ≤ sizeLine) →
    ∃ as bs, ReadsAll s.heap us ds as ∧ ReadAtMost s.heap (PyData.depthAll ds) bs ∧ ReprAllK X.prog X.w bs s.heap (PyData.depthAll ds) us (PyData.shownAll ds) := by
  intro vs ds us h
  induction h generalizing us with
  | nil =>
    intro r _ _
    cases r
    exact ⟨_, [], ReadsAll.nil, (fun _ q => nomatch q), .nil⟩
  | @cons v vs d ds h1 _ ih =>
    intro r sh z
    cases r with
    | cons r1 r2 =>
      obtain ⟨s1, s2⟩ : d.showable = true ∧ PyData.showableAll ds = true := by simpa [PyData.showableAll] using sh
      obtain ⟨as, bs, R, m, k⟩ := dq_shown I h1 r1 s1 (z _ (by simp only [PyData.shownAll]; exact List.mem_cons_self ..))
      obtain ⟨as2, bs2, R2, m2, k2⟩ := ih r2 s2 fun t ht => z t (by simp only [PyData.shownAll]; exact List.mem_cons_of_mem _ ht)
      refine ⟨_, bs ++ bs2, ReadsAll.cons R R2, ?_, ?_⟩
      · simp only [PyData.depthAll]
        exact ReadAtMost.append (m.mono (Nat.le_max_left _ _)) (m2.mono (Nat.le_max_right _ _))
      · simp only [PyData.depthAll, PyData.shownAll]
        exact .cons ((k.more fun _ q => List.mem_append_left _ q).level_le (Nat.le_max_left _ _)) (k2.more_le (fun _ q => List.mem_append_right _ q) (Nat.le_max_right _ _))
end
theorem call_rpL {X : Cx} (g : X.A.guards = some []) (hu : X.A.units + 64 < cLine) : CallR X (.builtin "repr") (rRpL X.K) := by
  intro pins s σ H xs us Q I r h
  obtain ⟨a, vs, ds, rfl, sq, dq, sh, dp, z, q⟩ := h
  obtain ⟨u, rfl, ru⟩ := vals1 r
  cases ru
  obtain ⟨its, rv, ⟨o, n, ho, hc, _, hd⟩, _⟩ := I.list sq
  have zz : (listText (PyData.shownAll ds)).length ≤ sizeLine := by simpa only [PyData.shown] using z
  obtain ⟨as, bs, R, m, k⟩ := dqs_shown I dq rv sh fun t ht => Nat.le_trans (listText_mem_le ht) zz
  have RL : Reads s.heap (.ref a) (.list ds) _ := .list ho hc hd R
  have na : a ∉ bs := not_mem_of_deeper RL (by simp only [PyData.depth]; omega) m
  refine call_repr_slot (by omega) ⟨o, ho, hc⟩ F.slot_list_repr.toG ?_
  simp only [PyData.shown] at q
  cases its with
  | nil =>
    cases R
    simp only [PyData.shownAll, listText_nil] at q
    exact call_list_repr_empty ⟨o, ho, hc⟩ ho hd ⟨_, _, rfl, .str _, H, I.tok _, ⟨_, rfl⟩, q⟩
  | cons y l =>
    exact call_list_reprK ho hc hd na (by simpa using k.length_eq) (fun i y e => k.item i y (by simpa using e)) g (fun b _ => Clear.nil b) (by show X.A.units + 1 + (PyData.depthAll ds + 1) < cLine; omega) (fun _ _ e => e) (fun h' u tk hk => ⟨_, _, rfl, .str _, H, I.kept hk, ⟨_, rfl⟩, q⟩) zz
theorem dp_keep {K : PySem.W.Frag} {H H' : Hp} (s : ∀ q o, H q = some o → H' q = some o) {v : V} {d : PyData} (h : Dp K H v d) : Dp K H' v d := by
  have sl : ∀ {a : Addr} {xs : List V}, SqL K H a xs → SqL K H' a xs := fun h => by
    rcases h with (h | ⟨o, h⟩) | h
    · exact .inl (.inl (s _ _ h))
    · exact .inl (.inr ⟨o, s _ _ h⟩)
    · exact .inr h
  have st : ∀ {a : Addr} {xs : List V}, SqT K H a xs → SqT K H' a xs := fun h => by
    rcases h with (h | ⟨o, h⟩) | h
    · exact .inl (.inl (s _ _ h))
    · exact .inl (.inr ⟨o, s _ _ h⟩)
    · exact .inr h
  refine Dp.rec (motive_1 := fun v d _ => Dp K H' v d) (motive_2 := fun vs ds _ => DpAll K H' vs ds) ?_ ?_ ?_ ?_ ?_ ?_ ?_ ?_ h
  · exact .non
  · exact fun b => .bl b
  · exact fun i => .int i
  · exact fun x => .str x
  · exact fun h _ ih => .lst (sl h) ih
  · exact fun h _ ih => .tup (st h) ih
  · exact .nil
  · exact fun _ _ h1 h2 => .cons h1 h2
/-- list(x) and tuple(x), named -/
def rListOf (K : PySem.W.Frag) : List V → Hp → VK → Prop := fun xs H Q => ∃ p ys, xs = [.ref p] ∧ (SqL K H p ys ∨ SqT K H p ys) ∧ ∀ l, H l = none → Q (.ref l) (upd H l (.lst ys))
theorem cr_listOf {X : Cx} : CallR X (.type "list") (rListOf X.K) := call_list_of
def rTupOf (K : PySem.W.Frag) : List V → Hp → VK → Prop := fun xs H Q => ∃ p ys, xs = [.ref p] ∧ ((SqL K H p ys ∧ ∀ l, H l = none → Q (.ref l) (upd H l (.tup ys))) ∨ (SqT K H p ys ∧ Q (.ref p) H))
theorem cr_tupOf {X : Cx} : CallR X (.type "tuple") (rTupOf X.K) := call_tuple_of
theorem pe_revLK {X : Cx} {K : PySem.W.Frag} {e : Expr} {te : TE} {k : Nat} {p1 p2 p3 pos : Pos} (hK : X.K = K) (he : PE X e te) : PE X (.Subscript e (.Slice none none (some (.UnaryOp .USub (.Constant (.int 1) k p1) p2)) p3) pos) (tRevL K te) := hK ▸ pe_revL he
end Jg

/-! how long data is shown -/
namespace Jg
open PySem PySem.Spec PyProof.Rows L2
/-- d weighs at most n and is at most k deep -/
structure Sb (d : PyData) (n k : Nat) : Prop where
  sh : d.showable = true
  lv : d.leavesShort 100 = true
  bk : d.bulk ≤ n
  dp : d.depth ≤ k
structure SbAll (ds : List PyData) (n k : Nat) : Prop where
  sh : PyData.showableAll ds = true
  lv : PyData.leavesShortAll 100 ds = true
  bk : PyData.bulkAll ds ≤ n
  dp : PyData.depthAll ds ≤ k
theorem Sb.str {z : Str} {n : Nat} (h : z.length ≤ n) (c : ∀ x ∈ z.cps.toList, x < 16 ^ 8) : Sb (.str z) n 0 :=
  ⟨by simp [PyData.showable], by simpa only [PyData.leavesShort, List.all_eq_true, decide_eq_true_eq] using c, h, by simp [PyData.depth]⟩
theorem Sb.int {i : Int} (h : i.natAbs < 10 ^ 9) : Sb (.int i) 0 0 := by
  have z := int_text_length_le10 (k := 9) (by decide) h
  have e : (PyData.int i).shown.length ≤ 100 := by
    show (Str.ofString (toString i)).length ≤ 100
    rw [PySem.ofString_length]
    omega
  refine ⟨?_, by simpa only [PyData.leavesShort, decide_eq_true_eq] using e, Nat.le_refl _, by simp [PyData.depth]⟩
  have l : i.natAbs.log2 < 1920 := Nat.lt_of_lt_of_le (PySem.Flt.log2_lt_of (k := 64) (by decide) (Nat.lt_of_lt_of_le h (by decide +kernel))) (by decide)
  simp [PyData.showable, l]
theorem Sb.non : Sb .none 0 0 := ⟨rfl, rfl, Nat.le_refl _, by simp [PyData.depth]⟩
theorem Sb.bl (b : Bool) : Sb (.bool b) 0 0 := ⟨rfl, rfl, Nat.le_refl _, by simp [PyData.depth]⟩
theorem Sb.mono {d : PyData} {n m k l : Nat} (h : Sb d n k) (h1 : n ≤ m) (h2 : k ≤ l) : Sb d m l := ⟨h.sh, h.lv, Nat.le_trans h.bk h1, Nat.le_trans h.dp h2⟩
theorem SbAll.mono {ds : List PyData} {n m k l : Nat} (h : SbAll ds n k) (h1 : n ≤ m) (h2 : k ≤ l) : SbAll ds m l := ⟨h.sh, h.lv, Nat.le_trans h.bk h1, Nat.le_trans h.dp h2⟩
theorem SbAll.nil {n k : Nat} : SbAll [] n k := ⟨rfl, rfl, Nat.zero_le _, Nat.zero_le _⟩
theorem SbAll.cons {d : PyData} {ds : List PyData} {n m k : Nat} (h1 : Sb d n k) (h2 : SbAll ds m k) : SbAll (d :: ds) (n + 1 + m) k :=
  ⟨by simp only [PyData.showableAll, h1.sh, h2.sh, Bool.and_true], by simp only [PyData.leavesShortAll, h1.lv, h2.lv, Bool.and_true], by
    have a := h1.bk
    have b := h2.bk
    simp only [PyData.bulkAll]; omega, by
    have a := h1.dp
    have b := h2.dp
    simp only [PyData.depthAll]; omega⟩
theorem SbAll.of {n k : Nat} : ∀ {ds : List PyData}, (∀ d ∈ ds, Sb d n k) → SbAll ds (ds.length * (n + 1)) k
  | [], _ => .nil
  | d :: ds, h => (SbAll.cons (h d (List.mem_cons_self ..)) (SbAll.of fun x hx => h x (List.mem_cons_of_mem _ hx))).mono (by rw [List.length_cons, Nat.add_mul]; omega) (Nat.le_refl _)
theorem SbAll.list {ds : List PyData} {n k : Nat} (h : SbAll ds n k) : Sb (.list ds) n (k + 1) :=
  ⟨by simp only [PyData.showable, h.sh], by simp only [PyData.leavesShort, h.lv], h.bk, by
    have a := h.dp
    simp only [PyData.depth]; omega⟩
theorem SbAll.tuple {ds : List PyData} {n k : Nat} (h : SbAll ds n k) : Sb (.tuple ds) n (k + 1) :=
  ⟨by simp only [PyData.showable, h.sh], by simp only [PyData.leavesShort, h.lv], h.bk, by
    have a := h.dp
    simp only [PyData.depth]; omega⟩
theorem sb_kv {n m k : Nat} : ∀ {kvs : List (PyData × PyData)}, (∀ p ∈ kvs, Sb p.1 n k ∧ Sb p.2 m k) → PyData.showableKv kvs = true ∧ PyData.leavesShortKv 100 kvs = true ∧ PyData.bulkKv kvs ≤ kvs.length * (n + m + 2) ∧ PyData.depthKv kvs ≤ k
  | [], _ => ⟨rfl, rfl, Nat.zero_le _, Nat.zero_le _⟩
  | (a, b) :: r, h => by
    obtain ⟨i1, i2, i3, i4⟩ := sb_kv (kvs := r) fun p hp => h p (List.mem_cons_of_mem _ hp)
    obtain ⟨h1, h2⟩ : Sb a n k ∧ Sb b m k := h (a, b) (List.mem_cons_self ..)
    refine ⟨by simp only [PyData.showableKv, h1.sh, h2.sh, i1, Bool.and_true], by simp only [PyData.leavesShortKv, h1.lv, h2.lv, i2, Bool.and_true], ?_, ?_⟩
    · have x := h1.bk
      have y := h2.bk
      simp only [PyData.bulkKv]
      rw [List.length_cons, Nat.add_mul]; omega
    · have x := h1.dp
      have y := h2.dp
      simp only [PyData.depthKv]; omega
theorem Sb.dict {kvs : List (PyData × PyData)} {n m k : Nat} (h : ∀ p ∈ kvs, Sb p.1 n k ∧ Sb p.2 m k) : Sb (.dict kvs) (kvs.length * (n + m + 2)) (k + 1) := by
  obtain ⟨i1, i2, i3, i4⟩ := sb_kv h
  exact ⟨by simp only [PyData.showable, i1], by simp only [PyData.leavesShort, i2], i3, by simp only [PyData.depth]; omega⟩
theorem Sb.len {d : PyData} {n k : Nat} (h : Sb d n k) (z : n ≤ 160000) : d.shown.length ≤ sizeLine := by
  have e := PyData.shown_le_bulk 100 (by decide) d h.lv
  have b := h.bk
  rw [sizeLine_eq]; omega
/-- as repr asks for it -/
theorem Sb.ask {d : PyData} {n k : Nat} (h : Sb d n k) (z : n ≤ 160000) (hk : k ≤ 40) : d.showable = true ∧ d.depth ≤ 40 ∧ d.shown.length ≤ sizeLine := ⟨h.sh, Nat.le_trans h.dp hk, h.len z⟩
end Jg

/-! a dict whose one key is None -/
namespace Jg
open PySem PySem.Spec PyProof.Rows L2
section
variable {P : Program} {w : World} {K : PySem.W.Frag}
def NkP (P : Program) (w : World) (a : Addr) : Heap → Prop := fun h => (a == sysModules) = false ∧ ∃ u, h.DictOf (noneKind P w) a [(none, u)]
abbrev NkO (P : Program) (w : World) (a : Addr) : HO := .ext (NkP P w a)
theorem nk_stay {a : Addr} : ∀ h1 h2 : Heap, NkP P w a h1 → (∀ o, h1.get? a = some o → h2.get? a = some o) → NkP P w a h2 := fun h1 h2 ⟨hs, u, o, es, ep, ho, r⟩ k => ⟨hs, u, o, es, ep, k _ ho, r⟩
theorem dict_ep2 {o : Obj} {es es' : Array DictEntry} {ep ep' : Nat} (h : o.data = .dict es ep) (h' : o.data = .dict es' ep') : es = es' ∧ ep = ep' := by
  rw [h] at h'
  injection h' with a b
  exact ⟨a, b⟩
variable {X : Cx} {pins : List (Addr × Obj)} {σ : L2.St} {H : Hp} {s : Shared} {d : Addr} {o : Obj}
theorem frzN (I : Inv X pins σ H s) (h : H d = some (.frz o (NkO X.prog X.w d))) :
    (d == sysModules) = false ∧ s.heap.get? d = some o ∧ o.ExactDict ∧ ∃ (es : Array DictEntry) (ep : Nat) (u : Value), o.data = .dict es ep ∧ es.size = 1 ∧ s.heap.DictAt (noneKind X.prog X.w) d [(none, u)] ep := by
  obtain ⟨hd, ⟨hs, u, o', es, ep, ho, hx, hdt, r⟩, _⟩ := I.hok d _ h
  rw [hd] at ho
  cases ho
  refine ⟨hs, hd, hx, es, ep, u, hdt, ?_, o, es, hd, hx, hdt, r⟩
  have l1 := r.2.1.length
  rw [Array.length_toList] at l1
  exact l1
def ItN (P : Program) (w : World) (d : Addr) (o : Obj) : It :=
  ⟨fun i H => H d = some (.frz o (NkO P w d)) ∧ i < 1, fun i H x H' => H' = H ∧ x = .non, fun i H => H d = some (.frz o (NkO P w d)) ∧ 1 ≤ i⟩
theorem walk_none : Walk (ItN P w d o) 1 (fun H => H d = some (.frz o (NkO P w d))) (fun i H x H' => H' = H ∧ x = .non) :=
  ⟨fun _ _ hi q => ⟨q, hi⟩, fun _ q => ⟨q, Nat.le_refl _⟩, fun _ _ _ _ _ _ y => y⟩
theorem turn_none {tg : Expr} {es : Array DictEntry} {ep : Nat} (it : Addr) (hod : o.data = .dict es ep) : Turn P w K tg (ItN P w d o) [it] it (fun i h => h.IsKeyIter it d i 1 ep) where
  mem := by simp
  obj := fun i h st b hb => by
    have e : b = it := by simpa using hb
    subst e
    obtain ⟨oi, e, c, dd⟩ := st
    exact ⟨oi, e, fun v z => by rw [dd] at z; cases z⟩
  keep := fun i h h' st k => st.at fun oi e => k it (by simp) oi e
  item := by
    intro X hP hw hK hc i pins s σ H E I hf st hg
    subst hP hw hK
    obtain ⟨hd, hi⟩ := hg
    obtain ⟨f0, f1, f2, f3, f4, f5⟩ := hf it (by simp)
    obtain ⟨hs, hgd, hx, es', ep', u, hdt, hsz, hm⟩ := frzN I hd
    obtain ⟨rfl, rfl⟩ := dict_ep2 hod hdt
    obtain rfl : i = 0 := by omega
    refine wpAny_pyNext_dict_item (kvs := [(none, u)]) (k := none) (v := u) st hm rfl fun key h' hkey st' sb => ?_
    have I1 : Inv X pins σ H { s with heap := h' } := I.turned (t' := s.toks) (fun b ob hb e => (sb.2 b hb).trans e) f0 f1 f3 f4 f5
    obtain ⟨oi, e, c, dd⟩ := id st'
    have ek := nk_none hkey
    subst ek
    exact ⟨.none, rfl, go_of (s := { s with heap := h' }) e c dd (by decide) ⟨.non, H, I1, rfl, ⟨rfl, rfl⟩, st', fun b hb => (hf b hb).1⟩⟩
  done := by
    intro X hP hw hK hc i pins s σ H E I hf st hg
    subst hP hw hK
    obtain ⟨hd, hi⟩ := hg
    obtain ⟨f0, f1, f2, f3, f4, f5⟩ := hf it (by simp)
    obtain ⟨hs, hgd, hx, es', ep', u, hdt, hsz, hm⟩ := frzN I hd
    obtain ⟨rfl, rfl⟩ := dict_ep2 hod hdt
    exact next_key_end (I.ok.hd hc) st hgd hdt hsz hi fun h' eb => ⟨rfl, I.turned (t' := s.toks) (fun b ob hb e => eb b ob hb e) f0 f1 f3 f4 f5⟩
  self := fun A i s Q E st h => wpAny_pyIter_keyiter st h
end
/-- for x in d: d as everywhere, or of the one key None -/
def iKeysE (P : Program) (w : World) (td : TE) : TI := fun σ H R => td σ H fun x H1 => ∃ d o, x = .ref d ∧ ((∃ kvs, H1 d = some (.frz o (.dK kvs)) ∧ R (Itk d o kvs) H1) ∨ (H1 d = some (.frz o (NkO P w d)) ∧ R (ItN P w d o) H1))
section
variable {X : Cx} {tg e : Expr} {td : TE} {pos : Pos}
theorem pi_keysE (he : PE X e td) : PI X tg e (iKeysE X.prog X.w td) := by
  refine ⟨fun pins s σ H R I h => ?_⟩
  refine thn (he.run pins s σ H _ I h) fun u s1 ⟨x, H1, I1, rx, d, o, ex, q⟩ => ?_
  subst ex
  obtain rfl : u = Value.ref d := rx
  rcases q with ⟨kvs, hd, q⟩ | ⟨hd, q⟩
  · obtain ⟨hs, hgd, hx, es, ep, vs, hdt, hsz, kv, hm⟩ := I1.frzK hd
    refine iter_keys hs hgd hx hdt (pi_one (tk := s1.toks) I1 _ (turn_keys _ hdt) ⟨_, Heap.get?_push_size _ rfl, rfl, ?_⟩ q)
    rw [hsz] <;> rfl
  · obtain ⟨hs, hgd, hx, es, ep, u, hdt, hsz, hm⟩ := frzN I1 hd
    refine iter_keys hs hgd hx hdt (pi_one (tk := s1.toks) I1 _ (turn_none _ hdt) ⟨_, Heap.get?_push_size _ rfl, rfl, ?_⟩ q)
    rw [hsz] <;> rfl
/-- {None: e} -/
def tDispN (P : Program) (w : World) (te : TE) : TE := fun σ H Q => ∀ p, H p = none → tPairs [(tC .non, te)] σ (upd H p (.dK [])) fun ps H2 => (∃ y, ps = [(V.non, y)]) ∧ H2 p = some (.dK []) ∧ Q (.ref p) (upd H2 p (NkO P w p))
theorem pe_dispN {k v : Expr} {te : TE} (hk : PE X k (tC .non)) (hv : PE X v te) : PE X (.Dict [some k] [v] pos) (tDispN X.prog X.w te) := by
  refine ⟨fun pins s σ H Q I q => ?_⟩
  have hn := I.hok.fresh (Nat.le_refl s.heap.objs.size)
  have I1 := I.laid (a := s.heap.objs.size) (o := .dK []) (h' := s.heap.push { cls := .type "dict", data := .dict #[] }) (t' := s.toks) (fun _ _ q => Heap.get?_push_of_some _ q) (Nat.le_refl _) (dk_empty s.heap I.big)
  have h : PPs X pos [some k] [v] [(tC .non, te)] := pps_cons hk hv pps_nil
  refine wpAny_Dict_walk (knd := noneKind X.prog X.w) rfl rfl (fun z => by cases z) (by show 1 ≤ 15; decide) (thn (h.run pins _ σ _ _ I1 (q _ hn)) fun ws s2 ⟨ps, H2, I2, rel, ⟨y, ep⟩, e, q2⟩ => ?_)
  subst ep
  obtain ⟨kv, rfl, r1, r3⟩ : ∃ kv, ws = [kv] ∧ RelV .non kv.1 ∧ RelV y kv.2 := by
    cases rel with
    | cons r1 r2 => cases r2; exact ⟨_, rfl, r1.1, r1.2⟩
  obtain ⟨ku, vu⟩ := kv
  obtain rfl : ku = Value.none := r1
  obtain ⟨z, hd, vs0, r0, dd⟩ := dk_of I2.hok e
  cases r0
  have dd0 : s2.heap.DictOf (noneKind X.prog X.w) s.heap.objs.size [] := by
    obtain ⟨o, es, ep, ho, hx, hdt, hk, hp, hn⟩ := dd
    have e0 : es = #[] := by
      have := hp.length
      simpa using this
    subst e0
    exact ⟨o, #[], ep, ho, hx, hdt, (fun e he => by simp at he), .nil, List.nodup_nil⟩
  refine ⟨[(none, vu)], ⟨rfl, rfl, trivial⟩, dd0, fun h' dd' hs => ⟨.ref s.heap.objs.size, _, ?_, rfl, q2⟩⟩
  have he : ∃ q, h'.get? s.heap.objs.size = some q := let ⟨q, _, _, hq, _⟩ := dd'; ⟨q, hq⟩
  exact d_write I2 (by rw [e]; exact True.intro) hs he ⟨⟨hd, vu, dd'⟩, he, nk_stay⟩
def rIsiE (P : Program) (w : World) (K : PySem.W.Frag) : List V → Hp → VK → Prop := fun xs H Q => rIsi K xs H Q ∨ ∃ a, xs = [.ref a, .ty "dict"] ∧ H a = some (NkO P w a) ∧ Q (.bl true) H
theorem call_isiE : CallR X (.builtin "isinstance") (rIsiE X.prog X.w X.K) := by
  intro pins s σ H xs us Q I r h
  rcases h with h | ⟨a, rfl, ha, q⟩
  · exact call_isi pins s σ H xs us Q I r h
  · obtain ⟨u1, u2, rfl, r1, r2⟩ := vals2 r
    cases (show u1 = Value.ref a from r1)
    cases (show u2 = Value.type "dict" from r2)
    obtain ⟨⟨hs, u, o, es, ep, ho, hx, _⟩, _⟩ := I.hok a _ ha
    exact PySem.W.kia_one PySem.W.kitx_dict I.kIn ⟨o, ho, hx.1⟩ (kit_ty (by decide +kernel)) (fun z => nomatch z) fun tk => ⟨.bl true, H, I.tok tk, rfl, q⟩
def rLenE (P : Program) (w : World) : List V → Hp → VK → Prop := fun xs H Q => (∃ a kvs, xs = [V.ref a] ∧ H a = some (.dK kvs) ∧ Q (.int kvs.length) H) ∨ ∃ a, xs = [.ref a] ∧ H a = some (NkO P w a) ∧ Q (.int 1) H
theorem call_lenE : CallR X (.builtin "len") (rLenE X.prog X.w) := by
  intro pins s σ H xs us Q I r h
  rcases h with h | ⟨a, rfl, ha, q⟩
  · exact call_lenD pins s σ H xs us Q I r h
  · obtain ⟨u, rfl, ru⟩ := vals1 r
    cases ru
    obtain ⟨⟨hs, u, dd⟩, _⟩ := I.hok a _ ha
    exact call_len_dict hs dd (by show ((1 : Nat) : Int) < 2 ^ 63; decide) ⟨.int 1, H, I.tok _, ⟨_, rfl⟩, q⟩
end
end Jg

namespace K07
open PySem PySem.Spec PyProof.Rows L2 Jg
local macro_rules | `(tactic| walk_at "rd1") => `(tactic| (first
  | refine ⟨_, rfl, ?_⟩
  | refine ⟨_, _, rfl, rfl, ?_⟩
  | refine ⟨_, _, rfl, ?_⟩
  | refine ⟨rfl, ?_⟩
  | (refine ⟨show (0 : Int) < _ by omega, ?_⟩)
  | (refine ⟨Or.inl ⟨by omega, by omega⟩, ?_⟩)
  | (refine ⟨Or.inr ⟨by omega, by omega⟩, ?_⟩)
  | (refine ⟨(⟨by decide, by decide, by decide⟩ : CPow _ _), ?_⟩)
  | refine Or.inl ⟨_, rfl, ?_⟩
  | refine Or.inr ⟨_, rfl, ?_⟩
  | fail "rd"))
local macro_rules | `(tactic| walk_at "rd") => `(tactic| repeat' walk_at "rd1")


def top (i : Nat) : Stmt := PySem.Challenge.pw_gaplesskeys_k07_wrong_contents.main.body.getD i (.Pass ⟨0, 0, 0, 0⟩)
structure Txt (K : PySem.W.Frag) (mg : Str → Option Value) : Prop where
  b_isinstance : mg "isinstance" = none
  b_int : mg "int" = none
  b_bool : mg "bool" = none
  b_str : mg "str" = none
  b_list : mg "list" = none
  b_tuple : mg "tuple" = none
  b_dict : mg "dict" = none
  b_len : mg "len" = none
  b_all : mg "all" = none
  b_any : mg "any" = none
  b_set : mg "set" = none
  b_sorted : mg "sorted" = none
  b_max : mg "max" = none
  b_min : mg "min" = none
  b_range : mg "range" = none
  b_repr : mg "repr" = none
  b_sum : mg "sum" = none
  g_MOST_ROLES : ∃ u, mg "_MOST_ROLES" = some u ∧ L2.RelV (.int 3) u
  g_MOST_ACCEPTED : ∃ u, mg "_MOST_ACCEPTED" = some u ∧ L2.RelV (.int 8) u
  g_MOST_VOUCHERS : ∃ u, mg "_MOST_VOUCHERS" = some u ∧ L2.RelV (.int 4) u
  g_MOST_NEEDED : ∃ u, mg "_MOST_NEEDED" = some u ∧ L2.RelV (.int 4) u
abbrev kit (K : PySem.W.Frag) (t : Value) (n : String) (b : Bool) : Prop := PySem.W.kitOne K t (.type n) = some b
theorem kii {K : PySem.W.Frag} : kit K (.type "int") "int" true := kit_ty (by decide +kernel)
theorem kib {K : PySem.W.Frag} : kit K (.type "int") "bool" false := kit_ty (by decide +kernel)
def wordB (z : Str) : Bool := decide (z.length ≤ 8) && (PySem.Txt.isascii z && (PySem.Txt.isalpha z && PySem.Txt.islower z))
def spIsInt (K : PySem.W.Frag) : Sp := fun vs H Q _ => ∃ x t b1 b2, vs = [x] ∧ TyX K H x t ∧ kit K t "int" b1 ∧ (b1 = true → kit K t "bool" b2) ∧ Q (.bl (b1 && !b2)) H
def spWord (K : PySem.W.Frag) : Sp := fun vs H Q _ => ∃ y, vs = [y] ∧ ((∃ z, y = .str z ∧ z.length ≤ sizeLine ∧ Q (.bl (wordB z)) H) ∨ (∃ t, TyX K H y t ∧ kit K t "str" false ∧ Q (.bl false) H))
/-! ### keys -/
def flagV (x : V) : Bool := match x with | .str z => wordB z | _ => false
def txV (x : V) : Str := match x with | .str z => z | _ => Str.empty
/-- what may stand in a list that is asked for keys -/
def ItOk (K : PySem.W.Frag) (H : Hp) (x : V) : Prop := (∃ z, x = .str z ∧ z.length ≤ sizeLine) ∨ (∃ t, (∀ H', Same H H' → TyX K H' x t) ∧ kit K t "str" false ∧ ∀ z, x ≠ .str z)
theorem ItOk.keep {K : PySem.W.Frag} {H H' : Hp} {x : V} (h : ItOk K H x) (s : Same H H') : ItOk K H' x := h.elim .inl fun ⟨t, ty, k⟩ => .inr ⟨t, fun H2 s2 => ty H2 (s.trans s2), k⟩
theorem yes_if {σ : L2.St} {H : Hp} {A B : Hp → Prop} (h : A H) : tYes σ H (fun b H3 => if b = true then A H3 else B H3) := by
  show (if true = true then A H else B H)
  rw [if_pos rfl]
  exact h
theorem same_new {H : Hp} {p : Addr} {o : HO} (h : H p = none) : Same H (upd H p o) := fun b u e => by rw [upd_ne (ne_of_none e h)]; exact e
theorem same_new' {H H1 : Hp} {p : Addr} {o : HO} (s : Same H H1) (h : H1 p = none) : Same H (upd H1 p o) := s.trans (same_new h)
theorem same_tup {K : PySem.W.Frag} {H H' : Hp} {a : Addr} {xs : List V} (e : Same H H') (h : SqT K H a xs) : SqT K H' a xs := by
  rcases h with (h | ⟨o, h⟩) | h
  · exact .inl (.inl (e _ _ h))
  · exact .inl (.inr ⟨o, e _ _ h⟩)
  · exact .inr h
theorem SqE.keep {K : PySem.W.Frag} {b : Bool} {H H' : Hp} {a : Addr} {xs : List V} (h : SqE K b H a xs) (s : Same H H') : SqE K b H' a xs := by
  cases b with
  | true => exact s.seq h
  | false => exact same_tup s h
theorem kAny_seq {K : PySem.W.Frag} (b : Bool) : PySem.W.kitAny K (.type (if b then "list" else "tuple")) [.type "list", .type "tuple"] = some true := by
  cases b with
  | true =>
    show (match PySem.W.kitOne K (.type "list") (.type "list") with | some true => some true | some false => PySem.W.kitAny K (.type "list") [.type "tuple"] | none => none) = _
    rw [show PySem.W.kitOne K (.type "list") (.type "list") = some true from kit_ty (by decide +kernel)]
  | false =>
    show (match PySem.W.kitOne K (.type "tuple") (.type "list") with | some true => some true | some false => PySem.W.kitAny K (.type "tuple") [.type "tuple"] | none => none) = _
    rw [show PySem.W.kitOne K (.type "tuple") (.type "list") = some false from kit_ty (by decide +kernel)]
    show (match PySem.W.kitOne K (.type "tuple") (.type "tuple") with | some true => some true | some false => some false | none => none) = _
    rw [show PySem.W.kitOne K (.type "tuple") (.type "tuple") = some true from kit_ty (by decide +kernel)]
theorem kAny_no {K : PySem.W.Frag} {t : Value} (k1 : kit K t "list" false) (k2 : kit K t "tuple" false) : PySem.W.kitAny K t [.type "list", .type "tuple"] = some false := by
  show (match PySem.W.kitOne K t (.type "list") with | some true => some true | some false => PySem.W.kitAny K t [.type "tuple"] | none => none) = _
  rw [show PySem.W.kitOne K t (.type "list") = some false from k1]
  show (match PySem.W.kitOne K t (.type "tuple") with | some true => some true | some false => some false | none => none) = _
  rw [show PySem.W.kitOne K t (.type "tuple") = some false from k2]
def keysB (xs : List V) (most : Int) : Bool := !decide (most < (xs.length : Int)) && (xs.all flagV && decide ((onceW (xs.map txV)).length = xs.length))
def spKeys (K : PySem.W.Frag) : Sp := fun vs H Q _ => ∃ y most, vs = [y, .int most] ∧
  ((∃ a b xs, y = .ref a ∧ SqE K b H a xs ∧ (∀ H', Same H H' → TyX K H' y (.type (if b then "list" else "tuple"))) ∧ xs.length ≤ 500 ∧ (∀ x ∈ xs, ItOk K H x) ∧ ∀ H', Same H H' → Q (.bl (keysB xs most)) H') ∨ (∃ t, (∀ H', Same H H' → TyX K H' y t) ∧ kit K t "list" false ∧ kit K t "tuple" false ∧ ∀ H', Same H H' → Q (.bl false) H'))
def spOrder (K : PySem.W.Frag) : Sp := fun vs H Q _ => ∃ a b ks, vs = [.ref a] ∧ SqE K b H a (ks.map V.str) ∧ ks.length ≤ 60 ∧ ∀ (ys : List Str) p H', ys.Perm (onceW ks) → sortedS ys = true → H p = none → Same H H' → H' p = some (.lst (ys.map V.str)) → Q (.ref p) H'
section
variable {P : Program} {w : World} {K : PySem.W.Frag} {mg : Str → Option Value} {base : Heap}
abbrev s_is_integer : Stmt := top 7
theorem sc_is_integer : FnScope ["value"] ["value"] (defScope s_is_integer) := ⟨rfl, rfl, rfl, by decide +kernel, rfl, by decide +kernel, by decide +kernel⟩
theorem ok_is_integer (D : DefK K mg "is_integer" s_is_integer) (T : Txt K mg) : Cal P w K mg base CX0 1 "is_integer" (spIsInt K) := by
  refine D.cal sc_is_integer (fun _ _ _ _ _ _ us hl => match us, hl with | [_], _ => rfl) (fun vs H Q E h => ?_) fun f cdv A outer s H vs Q E hr h => ?_
  · obtain ⟨x, t, b1, b2, rfl, _⟩ := h; rfl
  · obtain ⟨x, t, b1, b2, rfl, ty, k1, k2, q⟩ := h
    refine ⟨_, (pss_one (ps_ret (pe_and (pe_callB call_isi (by rfl) T.b_isinstance (by decide +kernel) (pa_cons (pv 0) (pa_cons (pe_ty (n := "int") (by rfl) T.b_int (by decide +kernel)) pa_nil))) (pe_one (pe_not (pe_callB call_isi (by rfl) T.b_isinstance (by decide +kernel) (pa_cons (pv 0) (pa_cons (pe_ty (n := "bool") (by rfl) T.b_bool (by decide +kernel)) pa_nil)))))))), ?_⟩
    refine ⟨_, rfl, x, .ty "int", t, _, b1, rfl, .ty "int", ty, k1, b1, rfl, ?_⟩
    cases b1 with
    | false => exact iteF q
    | true => exact iteT ⟨_, rfl, x, .ty "bool", t, _, b2, rfl, .ty "bool", ty, k2 rfl, b2, rfl, q⟩
abbrev s_is_word : Stmt := top 8
theorem sc_is_word : FnScope ["value"] ["value"] (defScope s_is_word) := ⟨rfl, rfl, rfl, by decide +kernel, rfl, by decide +kernel, by decide +kernel⟩
theorem ok_is_word (D : DefK K mg "is_word" s_is_word) (T : Txt K mg) : Cal P w K mg base CX0 1 "is_word" (spWord K) := by
  refine D.cal sc_is_word (fun _ _ _ _ _ _ us hl => match us, hl with | [_], _ => rfl) (fun vs H Q E h => ?_) fun f cdv A outer s H vs Q E hr h => ?_
  · obtain ⟨y, rfl, _⟩ := h; rfl
  · obtain ⟨y, rfl, h⟩ := h
    refine ⟨_, (pss_cons (ps_if (PW.pt (pw_or (pt_not (pt_val (pe_callB call_isi (by rfl) T.b_isinstance (by decide +kernel) (pa_cons (pv 0) (pa_cons (pe_ty (n := "str") (by rfl) T.b_str (by decide +kernel)) pa_nil))))) (pw_or1 (pt_cmpR op_gt (pe_callB call_len_str (by rfl) T.b_len (by decide +kernel) (pa_cons (pv 0) pa_nil)) pe_int (nomark _))))) (pss_one (ps_ret pe_bl)) pss_nil)
      (pss_one (ps_ret (pe_and (pe_m0 F.slot_str_isascii F.type_str_isascii mt_isascii (pv 0)) (pe_and (pe_m0 F.slot_str_isalpha F.type_str_isalpha mt_isalpha (pv 0)) (pe_one (pe_m0 F.slot_str_islower F.type_str_islower mt_islower (pv 0)))))))), ?_⟩
    rcases h with ⟨z, rfl, hz, q⟩ | ⟨t, ty, k, q⟩
    · refine ⟨_, rfl, .str z, .ty "str", _, _, true, rfl, .ty "str", .base (.str z), kit_ty (by decide +kernel), _, rfl, iteF ?_⟩
      refine ⟨_, rfl, z, rfl, hz, _, _, rfl, rfl, _, rfl, ?_⟩
      unfold wordB at q
      by_cases c : z.length ≤ 8
      · refine iteFe (decide_eq_false (by omega)) ?_
        rw [decide_eq_true c] at q
        refine ⟨_, rfl, ⟨_, rfl⟩, z, rfl, rfl, trivial, _, rfl, ?_⟩
        cases h1 : PySem.Txt.isascii z with
        | false => rw [h1] at q; exact iteF q
        | true =>
          rw [h1] at q
          refine iteT ⟨_, rfl, ⟨_, rfl⟩, z, rfl, rfl, trivial, _, rfl, ?_⟩
          cases h2 : PySem.Txt.isalpha z with
          | false => rw [h2] at q; exact iteF q
          | true =>
            rw [h2] at q
            exact iteT ⟨_, rfl, ⟨_, rfl⟩, z, rfl, rfl, trivial, q⟩
      · refine iteTe (decide_eq_true (by omega)) ?_
        rw [decide_eq_false c] at q
        exact q
    · exact ⟨_, rfl, y, .ty "str", t, _, false, rfl, .ty "str", ty, k, _, rfl, iteT q⟩
abbrev s_in_order : Stmt := top 18
theorem sc_in_order : FnScope ["words"] ["words"] (defScope s_in_order) := ⟨rfl, rfl, rfl, by decide +kernel, rfl, by decide +kernel, by decide +kernel⟩
theorem ok_order (D : DefK K mg "_in_order" s_in_order) (T : Txt K mg) : Cal P w K mg base CX0 1 "_in_order" (spOrder K) := by
  refine D.cal sc_in_order (fun _ _ _ _ _ _ us hl => match us, hl with | [_], _ => rfl) (fun vs H Q E h => ?_) fun f cdv A outer s H vs Q E hr h => ?_
  · obtain ⟨a, b, ks, rfl, _⟩ := h; rfl
  · obtain ⟨a, b, ks, rfl, sq, few, k⟩ := h
    refine ⟨_, (pss_one (ps_ret (pe_callB (cr_sortW rfl) (by rfl) T.b_sorted (by decide +kernel) (pa_cons (pe_callTy (cr_setW2 rfl) (by rfl) T.b_set (by decide +kernel) (pa_cons (pv 0) pa_nil)) pa_nil)))), ?_⟩
    have big : (1000 : Nat) < scanBound := by decide
    have ln := onceW_len ks
    refine ⟨_, rfl, a, ks, rfl, ?_, by omega, fun p np => ⟨p, onceW ks, rfl, upd_same, by omega, fun ys q pm so nq => ?_⟩⟩
    · cases b with
      | true => exact .inl sq
      | false => exact .inr sq
    · have s1 := same_new (o := SetWO P w p (onceW ks)) np
      exact k ys q _ pm so (s1.free nq) (same_new' s1 nq) upd_same
abbrev s_are_different_keys : Stmt := top 9
theorem sc_are_different_keys : FnScope ["value", "most", "key"] ["value", "most"] (defScope s_are_different_keys) := ⟨rfl, rfl, rfl, by decide +kernel, rfl, by decide +kernel, by decide +kernel⟩
theorem ok_keys (D : DefK K mg "are_different_keys" s_are_different_keys) (T : Txt K mg) (G_is_word : Cal P w K mg base CX0 1 "is_word" (spWord K)) : Cal P w K mg base CX0 2 "are_different_keys" (spKeys K) := by
  refine D.cal sc_are_different_keys (fun _ _ _ _ _ _ us hl => match us, hl with | [_, _], _ => rfl) (fun vs H Q E h => ?_) fun f cdv A outer s H vs Q E hr h => ?_
  · obtain ⟨y, most, rfl, _⟩ := h; rfl
  · obtain ⟨y, most, rfl, h⟩ := h
    refine ⟨_, (pss_cons (ps_if (PW.pt (pw_or (pt_not (pt_val (pe_callB call_isiT (by rfl) T.b_isinstance (by decide +kernel) (pa_cons (pv 0) (pa_cons (pe_tup (pa_cons (pe_ty (n := "list") (by rfl) T.b_list (by decide +kernel)) (pa_cons (pe_ty (n := "tuple") (by rfl) T.b_tuple (by decide +kernel)) pa_nil))) pa_nil))))) (pw_or1 (pt_cmpR op_gt (pe_callB call_len (by rfl) T.b_len (by decide +kernel) (pa_cons (pv 0) pa_nil)) (pv 1) (nomark _))))) (pss_one (ps_ret pe_bl)) pss_nil)
      (pss_one (ps_ret (pe_and (pe_callB (cr_all rfl) (by rfl) T.b_all (by decide +kernel) (pa_cons (pe_lc (own := [("key", 2)]) (g := gName 2) (by rfl) sc_are_different_keys.nd (pi_either (pv 0)) (blkOk_by (own := [("key", 2)]) (N := ["value", "most", "key"]) (sc := defScope s_are_different_keys) (by decide +kernel)) (fun _ _ _ _ _ => pg_name (i := 2) sc_are_different_keys.nd rfl (Or.inl rfl)) (fun _ _ _ _ _ => pts_nil) (fun _ _ _ _ _ => (pe_c G_is_word hr (by decide) rfl (pa_cons (pv 2) pa_nil)))) pa_nil)) (pe_one (pe_cmpR op_eq (pe_callB call_lenW (by rfl) T.b_len (by decide +kernel) (pa_cons (pe_callTy (cr_setW2 rfl) (by rfl) T.b_set (by decide +kernel) (pa_cons (pv 0) pa_nil)) pa_nil)) (pe_callB call_len (by rfl) T.b_len (by decide +kernel) (pa_cons (pv 0) pa_nil)) (nomark _))))))), ?_⟩
    rcases h with ⟨a, b, xs, rfl, sq, ty, few, its, k⟩ | ⟨t, ty, k1, k2, k⟩
    · refine ⟨_, rfl, by show 2 ≤ sizeLine; decide, fun tp ntp => ?_⟩
      have s1 := same_new (o := .tup [.ty "list", .ty "tuple"]) ntp
      have sq1 : SqE K b _ a xs := SqE.keep (b := b) sq s1
      refine ⟨.ref a, tp, [.ty "list", .ty "tuple"], _, [.type "list", .type "tuple"], true, rfl, upd_same, .cons (.ty _) (.cons (.ty _) .nil), ty _ s1, kAny_seq b, true, rfl, iteF ?_⟩
      generalize upd H tp (.tup [.ty "list", .ty "tuple"]) = H1 at *
      have lv : LenV K (.ref a) H1 xs.length := by
        cases b with
        | true => exact .inl ⟨xs, sq1, rfl⟩
        | false => exact .inr ⟨xs, sq1, rfl⟩
      refine ⟨_, rfl, .ref a, _, rfl, lv, _, rfl, _, _, rfl, rfl, _, rfl, ?_⟩
      unfold keysB at k
      by_cases c : most < (xs.length : Int)
      · rw [decide_eq_true c] at k ⊢
        exact iteT (k _ s1)
      · rw [decide_eq_false c] at k ⊢
        refine iteF ⟨_, rfl, a, b, xs, rfl, sq1, fun D nD => lc_either (K := K) (b := b) (a := a) (xs := xs) (fun i H' => Same H1 H' ∧ H' D = some (.lst ((xs.take i).map fun x => V.bl (flagV x)))) ⟨same_new nD, upd_same⟩ (fun _ H' _ z => SqE.keep (b := b) sq1 z.1) ?_ ?_⟩
        · intro i x H' hx ⟨s2, eD⟩
          have tk : xs.take (i + 1) = xs.take i ++ [x] := by rw [List.take_succ, hx]; rfl
          have nDH : H D = none := s1.free nD
          have up : Same H1 (upd H' D (.lst (((xs.take i).map fun x => V.bl (flagV x)) ++ [V.bl (flagV x)]))) := fun c o e => by rw [upd_ne (ne_of_none e nD)]; exact s2 c o e
          have eq : upd H' D (.lst (((xs.take i).map fun x => V.bl (flagV x)) ++ [V.bl (flagV x)])) D = some (.lst ((xs.take (i + 1)).map fun x => V.bl (flagV x))) := by rw [upd_same, tk, List.map_append]; rfl
          have sz : ((xs.take i).map fun x => V.bl (flagV x)).length < sizeLine := by
            rw [List.length_map, List.length_take, sizeLine_eq]; omega
          refine ⟨rfl, yes_if ⟨_, rfl, x, rfl, ?_⟩⟩
          rcases (its x (List.mem_of_getElem? hx)).keep (s1.trans s2) with ⟨z, rfl, hz⟩ | ⟨t, ty2, k2, nz⟩
          · exact .inl ⟨z, rfl, hz, _, eD, sz, up, eq⟩
          · have fl : flagV x = false := by
              cases x with
              | str z => exact absurd rfl (nz z)
              | _ => rfl
            rw [fl] at up eq
            exact .inr ⟨t, ty2 _ (Same.refl _), k2, _, eD, sz, up, eq⟩
        · rintro H' ⟨s2, eD⟩
          rw [List.take_length] at eD
          have mm : (xs.map flagV).map V.bl = xs.map fun x => V.bl (flagV x) := by rw [List.map_map]; rfl
          refine ⟨D, xs.map flagV, rfl, SqL.of (by rw [mm]; exact eD), _, rfl, ?_⟩
          have al : (xs.map flagV).all id = xs.all flagV := by rw [List.all_map]; rfl
          rw [al]
          cases c2 : xs.all flagV with
          | false =>
            rw [c2] at k
            exact iteF (k _ (s1.trans s2))
          | true =>
            rw [c2] at k
            have ex : (xs.map txV).map V.str = xs := by
              rw [List.map_map]
              refine (List.map_congr_left fun x hx => ?_).trans (List.map_id xs)
              have fx := List.all_eq_true.mp c2 x hx
              cases x with
              | str z => rfl
              | _ => cases fx
            have sq2 : SqE K b H' a ((xs.map txV).map V.str) := by rw [ex]; exact SqE.keep (b := b) sq1 s2
            have big : (1000 : Nat) < scanBound := by decide
            refine iteT ⟨_, rfl, a, xs.map txV, rfl, ?_, by rw [List.length_map]; omega, fun p np => ⟨p, _, rfl, upd_same, _, rfl, .ref a, xs.length, rfl, ?_, rfl, ?_⟩⟩
            · cases b with
              | true => exact .inl sq2
              | false => exact .inr sq2
            · have sq3 : SqE K b (upd H' p (SetWO P w p (onceW (xs.map txV)))) a xs := SqE.keep (b := b) (SqE.keep (b := b) sq1 s2) (same_new np)
              cases b with
              | true => exact .inl ⟨xs, sq3, rfl⟩
              | false => exact .inr ⟨xs, sq3, rfl⟩
            · have q := k _ ((s1.trans s2).trans (same_new (o := SetWO P w p (onceW (xs.map txV))) np))
              have e : decide (V.int ((onceW (xs.map txV)).length : Int) = V.int (xs.length : Int)) = decide ((onceW (xs.map txV)).length = xs.length) := by
                rw [Bool.eq_iff_iff, decide_eq_true_iff, decide_eq_true_iff]
                exact ⟨fun h => by have := V.int.inj h; omega, fun h => by rw [h]⟩
              show Q (.bl (decide (V.int ((onceW (xs.map txV)).length : Int) = V.int (xs.length : Int)))) _
              rw [e]
              exact q
    · refine ⟨_, rfl, by show 2 ≤ sizeLine; decide, fun tp ntp => ?_⟩
      have s1 := same_new (o := .tup [.ty "list", .ty "tuple"]) ntp
      exact ⟨y, tp, [.ty "list", .ty "tuple"], t, [.type "list", .type "tuple"], false, rfl, upd_same, .cons (.ty _) (.cons (.ty _) .nil), ty _ s1, kAny_no k1 k2, false, rfl, iteT (k _ s1)⟩
end

end K07

namespace K07
open PySem PySem.Spec PyProof.Rows L2 Jg
local macro_rules | `(tactic| walk_at "rd1") => `(tactic| (first
  | refine ⟨_, rfl, ?_⟩
  | refine ⟨_, _, rfl, rfl, ?_⟩
  | refine ⟨_, _, rfl, ?_⟩
  | refine ⟨rfl, ?_⟩
  | (refine ⟨show (0 : Int) < _ by omega, ?_⟩)
  | (refine ⟨Or.inl ⟨by omega, by omega⟩, ?_⟩)
  | (refine ⟨Or.inr ⟨by omega, by omega⟩, ?_⟩)
  | (refine ⟨(⟨by decide, by decide, by decide⟩ : CPow _ _), ?_⟩)
  | refine Or.inl ⟨_, rfl, ?_⟩
  | refine Or.inr ⟨_, rfl, ?_⟩
  | fail "rd"))
local macro_rules | `(tactic| walk_at "rd") => `(tactic| repeat' walk_at "rd1")


/-! ### the use of a role -/
/-- y is asked for keys: fl is the answer, now and later -/
def KeysIs (K : PySem.W.Frag) (H : Hp) (y : V) (most : Int) (fl : Bool) : Prop := ∀ (H' : Hp) (Q : VK), Same H H' → (∀ H2, Same H' H2 → Q (.bl fl) H2) → spKeys K [y, .int most] H' Q E0
def WordIs (K : PySem.W.Frag) (H : Hp) (y : V) (fl : Bool) : Prop := (∃ z, y = .str z ∧ z.length ≤ sizeLine ∧ fl = wordB z) ∨ (fl = false ∧ ∃ t, (∀ H', Same H H' → TyX K H' y t) ∧ kit K t "str" false)
theorem WordIs.keep {K : PySem.W.Frag} {H H' : Hp} {y : V} {fl : Bool} (h : WordIs K H y fl) (s : Same H H') : WordIs K H' y fl := h.elim .inl fun ⟨e, t, ty, k⟩ => .inr ⟨e, t, fun H2 s2 => ty H2 (s.trans s2), k⟩
theorem KeysIs.keep {K : PySem.W.Frag} {H H' : Hp} {y : V} {m : Int} {fl : Bool} (h : KeysIs K H y m fl) (s : Same H H') : KeysIs K H' y m fl := fun H2 Q s2 q => h H2 Q (s.trans s2) q
@[irreducible] def spKeysI (K : PySem.W.Frag) : Sp := spKeys K
theorem KeysIs.i {K : PySem.W.Frag} {H : Hp} {y : V} {m : Int} {fl : Bool} (h : KeysIs K H y m fl) (H' : Hp) (Q : VK) (s : Same H H') (q : ∀ H2, Same H' H2 → Q (.bl fl) H2) : spKeysI K [y, .int m] H' Q E0 := by
  unfold spKeysI
  exact h H' Q s q
def spUse (K : PySem.W.Frag) : Sp := fun vs H Q _ => ∃ y, vs = [y] ∧
  ((∃ t, TyX K H y t ∧ kit K t "tuple" false ∧ Q (.bl false) H) ∨
   (∃ tp xs, y = .ref tp ∧ H tp = some (.tup xs) ∧ xs.length ≠ 2 ∧ Q (.bl false) H) ∨
   (∃ tp a u fa fu, y = .ref tp ∧ H tp = some (.tup [a, u]) ∧ KeysIs K H a 8 fa ∧ WordIs K H u fu ∧ ∀ H', Same H H' → Q (.bl (fa && fu)) H'))
section
variable {P : Program} {w : World} {K : PySem.W.Frag} {mg : Str → Option Value} {base : Heap}
abbrev s_is_use : Stmt := top 15
theorem sc_is_use : FnScope ["value", "accepted", "used"] ["value"] (defScope s_is_use) := ⟨rfl, rfl, rfl, by decide +kernel, rfl, by decide +kernel, by decide +kernel⟩
theorem ok_use_ (D : DefK K mg "_is_use" s_is_use) (T : Txt K mg) (G_is_word : Cal P w K mg base CX0 1 "is_word" (spWord K)) (G_are_different_keys : Cal P w K mg base CX0 2 "are_different_keys" (spKeysI K)) : Cal P w K mg base CX0 3 "_is_use" (spUse K) := by
  refine D.cal sc_is_use (fun _ _ _ _ _ _ us hl => match us, hl with | [_], _ => rfl) (fun vs H Q E h => ?_) fun f cdv A outer s H vs Q E hr h => ?_
  · obtain ⟨y, rfl, _⟩ := h; rfl
  · obtain ⟨y, rfl, h⟩ := h
    refine ⟨_, (pss_cons (ps_if (PW.pt (pw_or (pt_not (pt_val (pe_callB call_isi (by rfl) T.b_isinstance (by decide +kernel) (pa_cons (pv 0) (pa_cons (pe_ty (n := "tuple") (by rfl) T.b_tuple (by decide +kernel)) pa_nil))))) (pw_or1 (pt_cmpR op_ne (pe_callB call_len_seq (by rfl) T.b_len (by decide +kernel) (pa_cons (pv 0) pa_nil)) pe_int (nomark _))))) (pss_one (ps_ret pe_bl)) pss_nil)
      (pss_cons (ps_asg (pv 0) (pg_tup rfl (pgs_cons (pg_name (i := 1) sc_is_use.nd rfl (Or.inl rfl)) (pgs_cons (pg_name (i := 2) sc_is_use.nd rfl (Or.inl rfl)) pgs_nil))))
      (pss_one (ps_ret (pe_and (pe_c G_are_different_keys hr (by decide) rfl (pa_cons (pv 1) (pa_cons (pe_gc rfl T.g_MOST_ACCEPTED) pa_nil))) (pe_one (pe_c G_is_word hr (by decide) rfl (pa_cons (pv 2) pa_nil)))))))), ?_⟩
    rcases h with ⟨t, ty, kt, q⟩ | ⟨tp, xs, rfl, et, n2, q⟩ | ⟨tp, a, u, fa, fu, rfl, et, ka, wu, k⟩
    · exact ⟨_, rfl, y, .ty "tuple", t, _, false, rfl, .ty "tuple", ty, kt, false, rfl, iteT q⟩
    · refine ⟨_, rfl, .ref tp, .ty "tuple", _, _, true, rfl, .ty "tuple", .base (.tup et), kit_ty (by decide +kernel), true, rfl, iteF ?_⟩
      refine ⟨_, rfl, tp, _, rfl, .inr (SqT.of et), rfl, _, rfl, iteTe (show (!decide (V.int (xs.length : Int) = V.int 2)) = true by rw [decide_eq_false fun z => n2 (by injection z with z; omega)]; rfl) q⟩
    · refine ⟨_, rfl, .ref tp, .ty "tuple", _, _, true, rfl, .ty "tuple", .base (.tup et), kit_ty (by decide +kernel), true, rfl, iteF ?_⟩
      refine ⟨_, rfl, tp, _, rfl, .inr (SqT.of et), rfl, _, rfl, iteF ?_⟩
      refine ⟨_, rfl, tp, _, rfl, SqT.of et, rfl, _, _, rfl, _, _, rfl, rfl, ?_⟩
      refine ⟨_, rfl, ka.i H _ (.refl _) fun H' s1 => ⟨_, rfl, ?_⟩⟩
      have q := k H' s1
      cases fa with
      | false => exact iteF q
      | true =>
        refine iteT ⟨_, rfl, u, rfl, ?_⟩
        rcases wu.keep s1 with ⟨z, rfl, hz, e⟩ | ⟨e, t, ty, kt⟩
        · rw [e] at q; exact .inl ⟨z, rfl, hz, q⟩
        · rw [e] at q; exact .inr ⟨t, ty _ (.refl _), kt, q⟩
theorem ok_use (D : DefK K mg "_is_use" s_is_use) (T : Txt K mg) (G_is_word : Cal P w K mg base CX0 1 "is_word" (spWord K)) (G_are_different_keys : Cal P w K mg base CX0 2 "are_different_keys" (spKeys K)) : Cal P w K mg base CX0 3 "_is_use" (spUse K) :=
  ok_use_ D T G_is_word (by unfold spKeysI; exact G_are_different_keys)
end

end K07

namespace K07
open PySem PySem.Spec PyProof.Rows L2 Jg
local macro_rules | `(tactic| walk_at "rd1") => `(tactic| (first
  | refine ⟨_, rfl, ?_⟩
  | refine ⟨_, _, rfl, rfl, ?_⟩
  | refine ⟨_, _, rfl, ?_⟩
  | refine ⟨rfl, ?_⟩
  | (refine ⟨show (0 : Int) < _ by omega, ?_⟩)
  | (refine ⟨Or.inl ⟨by omega, by omega⟩, ?_⟩)
  | (refine ⟨Or.inr ⟨by omega, by omega⟩, ?_⟩)
  | (refine ⟨(⟨by decide, by decide, by decide⟩ : CPow _ _), ?_⟩)
  | refine Or.inl ⟨_, rfl, ?_⟩
  | refine Or.inr ⟨_, rfl, ?_⟩
  | fail "rd"))
local macro_rules | `(tactic| walk_at "rd") => `(tactic| repeat' walk_at "rd1")


theorem lc_w {J : It} {n : Nat} {G : Hp → Prop} {Y : Nat → Hp → V → Hp → Prop} (W : Walk J n G Y) {g : TG} {tt : TT} {te : TE} {vs : List Nat} {σ : L2.St} {H1 : Hp} {D : Addr} {Qd : Hp → Prop} (Pv : Nat → Hp → Prop) (h0 : Pv 0 (upd H1 D (.lst []))) (hG : ∀ i H, Pv i H → G H)
    (hs : ∀ i H x H', i < n → Pv i H → Y i H x H' → g x (wipe σ vs) H' fun σ2 H2 => wipe σ2 vs = wipe σ vs ∧ tt σ2 H2 fun b H3 =>
      if b = true then te σ2 H3 fun y H4 => ∃ acc, H4 D = some (.lst acc) ∧ acc.length < sizeLine ∧ Pv (i + 1) (upd H4 D (.lst (acc ++ [y]))) else Pv (i + 1) H3) (hd : ∀ H, Pv n H → Qd H) : LcAsk J g tt te vs σ H1 D Qd := by
  refine ⟨fun i m H => m = n - i ∧ i ≤ n ∧ Pv i H, ⟨_, rfl, Nat.zero_le _, h0⟩, ?_⟩
  rintro i m H ⟨rfl, hi, p⟩
  rcases Nat.lt_or_ge i n with lt | ge
  · exact .inr ⟨W.goes i H lt (hG i H p), Pv (i + 1), (fun H' p' => ⟨_, by omega, rfl, lt, p'⟩), fun x H' y => hs i H x H' lt p (W.yields i H x H' lt (hG i H p) y)⟩
  · have e : i = n := by omega
    subst e
    exact .inl ⟨W.stops H (hG i H p), hd H p⟩
/-- all stays, but what stands at d -/
def SameB (d : Addr) (H H' : Hp) : Prop := ∀ q o, H q = some o → q ≠ d → H' q = some o
/-- a role and its use -/
structure Row where
  z : Str
  t : Addr
  a : Addr
  b : Bool
  ks : List Str
  u : Str
structure RowOk (K : PySem.W.Frag) (d : Addr) (H : Hp) (r : Row) : Prop where
  at_ : H r.t = some (.tup [.ref r.a, .str r.u])
  nt : r.t ≠ d
  na : r.a ≠ d
  sq : SqE K r.b H r.a (r.ks.map V.str)
  ty : ∀ H', SameB d H H' → TyX K H' (.ref r.a) (.type (if r.b then "list" else "tuple"))
  few : r.ks.length ≤ 500
  sh : ∀ k ∈ r.ks, k.length ≤ sizeLine
  zu : r.z.length ≤ sizeLine ∧ r.u.length ≤ sizeLine
def rowB (r : Row) : Bool := wordB r.z && (keysB (r.ks.map V.str) 8 && wordB r.u)
def dictOf (rows : List Row) : List (Key × V) := rows.map fun r => (Sum.inr r.z, V.ref r.t)
theorem val_row : ∀ (rows : List Row) (r : Row), (rows.map (·.z)).Nodup → r ∈ rows → valV (dictOf rows) (Sum.inr r.z) = some (.ref r.t) := by
  intro rows
  induction rows with
  | nil => intro r _ h; cases h
  | cons p rest ih =>
    intro r nd hr
    rw [List.map_cons, List.nodup_cons] at nd
    show valV ((Sum.inr p.z, V.ref p.t) :: dictOf rest) (Sum.inr r.z) = _
    rcases List.mem_cons.mp hr with e | h
    · rw [e]; exact valV_pos (p := (Sum.inr p.z, V.ref p.t)) rfl
    · have ne : ¬ ((Sum.inr p.z, V.ref p.t) : Key × V).1 = Sum.inr r.z := fun q => nd.1 (List.mem_map.mpr ⟨r, h, (Sum.inr.inj q).symm⟩)
      rw [valV_neg ne]
      exact ih r nd.2 h
theorem SqE.lock {K : PySem.W.Frag} {b : Bool} {d a : Addr} {H H' : Hp} {xs : List V} (h : SqE K b H a xs) (s : SameB d H H') (n : a ≠ d) : SqE K b H' a xs := by
  cases b with
  | true =>
    rcases (show SqL K H a xs from h) with (h | ⟨o, h⟩) | h
    · exact .inl (.inl (s _ _ h n))
    · exact .inl (.inr ⟨o, s _ _ h n⟩)
    · exact .inr h
  | false =>
    rcases (show SqT K H a xs from h) with (h | ⟨o, h⟩) | h
    · exact .inl (.inl (s _ _ h n))
    · exact .inl (.inr ⟨o, s _ _ h n⟩)
    · exact .inr h
def UseB (K : PySem.W.Frag) (d : Addr) (H : Hp) (y : V) (fl : Bool) : Prop := ∀ (H' : Hp) (Q : VK), SameB d H H' → (∀ H2, Same H' H2 → Q (.bl fl) H2) → spUse K [y] H' Q E0
@[irreducible] def spUseI (K : PySem.W.Frag) : Sp := spUse K
theorem UseB.i {K : PySem.W.Frag} {d : Addr} {H : Hp} {y : V} {fl : Bool} (h : UseB K d H y fl) (H' : Hp) (Q : VK) (s : SameB d H H') (q : ∀ H2, Same H' H2 → Q (.bl fl) H2) : spUseI K [y] H' Q E0 := by
  unfold spUseI
  exact h H' Q s q
/-- an entry of a dict that is asked for roles, and the answer about it -/
def EntB (K : PySem.W.Frag) (d : Addr) (H : Hp) (e : Key × V) (fl : Bool) : Prop := (∃ z, e.1 = .inr z ∧ z.length ≤ sizeLine ∧ ((wordB z = false ∧ fl = false) ∨ (wordB z = true ∧ UseB K d H e.2 fl))) ∨ (∃ i, e.1 = .inl i ∧ fl = false)
theorem EntB.keep {K : PySem.W.Frag} {d : Addr} {H H' : Hp} {e : Key × V} {fl : Bool} (h : EntB K d H e fl) (s : SameB d H H') : EntB K d H' e fl := by
  rcases h with ⟨z, a, b, c | ⟨c, u⟩⟩ | h
  · exact .inl ⟨z, a, b, .inl c⟩
  · exact .inl ⟨z, a, b, .inr ⟨c, fun H2 Q s2 q => u H2 Q (fun b o e n => s2 b o (s b o e n) n) q⟩⟩
  · exact .inr h
theorem val_mem {kvs : List (Key × V)} {k : Key} {v : V} (nd : (kvs.map (·.1)).Nodup) (h : (k, v) ∈ kvs) : valV kvs k = some v := by
  induction kvs with
  | nil => cases h
  | cons p rest ih =>
    rw [List.map_cons, List.nodup_cons] at nd
    rcases List.mem_cons.mp h with e | h
    · rw [← e]; exact valV_pos (p := (k, v)) rfl
    · have ne : ¬ p.1 = k := fun q => nd.1 (List.mem_map.mpr ⟨(k, v), h, q.symm⟩)
      rw [valV_neg ne]
      exact ih nd.2 h
theorem ent_len {K : PySem.W.Frag} {d : Addr} {H : Hp} : ∀ {kvs : List (Key × V)} {fs : List Bool}, Paired (EntB K d H) kvs fs → kvs.length = fs.length
  | _, _, .nil => rfl
  | _, _, .cons _ r => by rw [List.length_cons, List.length_cons, ent_len r]
theorem ent_get {K : PySem.W.Frag} {d : Addr} {H : Hp} : ∀ {kvs : List (Key × V)} {fs : List Bool} {i : Nat} {e : Key × V}, Paired (EntB K d H) kvs fs → kvs[i]? = some e → ∃ f, fs[i]? = some f ∧ EntB K d H e f
  | _, _, i, _, .nil, h => by simp at h
  | _, _, 0, _, .cons a _, h => by
    have h' := Option.some.inj h
    subst h'
    exact ⟨_, rfl, a⟩
  | _, _, i + 1, _, .cons _ r, h => let ⟨f, a, b⟩ := ent_get (i := i) r (by simpa using h); ⟨f, by simpa using a, b⟩
def spRoles (P : Program) (w : World) (K : PySem.W.Frag) : Sp := fun vs H Q _ => ∃ y, vs = [y] ∧
  ((∃ t, TyX K H y t ∧ kit K t "dict" false ∧ Q (.bl false) H) ∨
   (∃ d kvs, y = .ref d ∧ H d = some (.dK kvs) ∧ (kvs.length < 1 ∨ 3 < kvs.length) ∧ Q (.bl false) H) ∨
   (∃ d kvs, ∃ fs : List Bool, y = .ref d ∧ H d = some (.dK kvs) ∧ 1 ≤ kvs.length ∧ kvs.length ≤ 3 ∧ (kvs.map (·.1)).Nodup ∧ Paired (EntB K d H) kvs fs ∧ ∀ H', Same H H' → Q (.bl (fs.all id)) H') ∨
   (∃ d, y = .ref d ∧ H d = some (NkO P w d) ∧ ∀ H', Same H H' → Q (.bl false) H'))
section
variable {P : Program} {w : World} {K : PySem.W.Frag} {mg : Str → Option Value} {base : Heap}
abbrev s_are_roles : Stmt := top 16
theorem sc_are_roles : FnScope ["value", "role"] ["value"] (defScope s_are_roles) := ⟨rfl, rfl, rfl, by decide +kernel, rfl, by decide +kernel, by decide +kernel⟩
theorem ok_roles_ (D : DefK K mg "_are_roles" s_are_roles) (T : Txt K mg) (G_is_word : Cal P w K mg base CX0 1 "is_word" (spWord K)) (G_is_use : Cal P w K mg base CX0 3 "_is_use" (spUseI K)) : Cal P w K mg base CX0 4 "_are_roles" (spRoles P w K) := by
  refine D.cal sc_are_roles (fun _ _ _ _ _ _ us hl => match us, hl with | [_], _ => rfl) (fun vs H Q E h => ?_) fun f cdv A outer s H vs Q E hr h => ?_
  · obtain ⟨y, rfl, _⟩ := h; rfl
  · obtain ⟨y, rfl, h⟩ := h
    refine ⟨_, (pss_cons (ps_if (PW.pt (pw_or (pt_not (pt_val (pe_callB (r := rIsiE P w K) call_isiE (by rfl) T.b_isinstance (by decide +kernel) (pa_cons (pv 0) (pa_cons (pe_ty (n := "dict") (by rfl) T.b_dict (by decide +kernel)) pa_nil))))) (pw_or1 (pt_not (pt_chain op_le op_le pe_int (pe_callB (r := rLenE P w) call_lenE (by rfl) T.b_len (by decide +kernel) (pa_cons (pv 0) pa_nil)) (pe_gc rfl T.g_MOST_ROLES)))))) (pss_one (ps_ret pe_bl)) pss_nil)
      (pss_one (ps_ret (pe_lock (pe_callB (cr_all rfl) (by rfl) T.b_all (by decide +kernel) (pa_cons (pe_lc (own := [("role", 1)]) (g := gName 1) (by rfl) sc_are_roles.nd (pi_keysE (pv 0)) (blkOk_by (own := [("role", 1)]) (N := ["value", "role"]) (sc := defScope s_are_roles) (by decide +kernel)) (fun _ _ _ _ _ => pg_name (i := 1) sc_are_roles.nd rfl (Or.inl rfl)) (fun _ _ _ _ _ => pts_nil) (fun _ _ _ _ _ => (pe_and (pe_c G_is_word hr (by decide) rfl (pa_cons (pv 1) pa_nil)) (pe_one (pe_c G_is_use hr (by decide) rfl (pa_cons (pe_dget (Nat.lt_of_le_of_lt (Nat.add_le_add_left (by decide : 1 ≤ 64) _) hr.units) (pv 0) (pv 1) (fun _ _ => rfl)) pa_nil)))))) pa_nil)))))), ?_⟩
    have lock : ∀ {d : Addr} {o : Obj} {u : HO}, H d = some u → SameB d H (upd H d (.frz o u)) ∧ ∀ H', Same (upd H d (.frz o u)) H' → Same H (upd H' d u) := fun {d o u} ed =>
      ⟨fun q o e n => by rw [upd_ne n]; exact e, fun H' s q o e => by
        by_cases c : q = d
        · rw [c] at e ⊢
          rw [upd_same, ← ed]; exact e
        · rw [upd_ne c]
          exact s _ _ (by rw [upd_ne c]; exact e)⟩
    rcases h with ⟨t, ty, kt, q⟩ | ⟨d, kvs, rfl, ed, bad, q⟩ | ⟨d, kvs, fs, rfl, ed, n1, n3, nd, pr, k⟩ | ⟨d, rfl, ed, k⟩
    · exact ⟨_, rfl, .inl ⟨y, .ty "dict", t, _, false, rfl, .ty "dict", ty, kt, false, rfl, iteT q⟩⟩
    · refine ⟨_, rfl, .inl ⟨.ref d, .ty "dict", _, _, true, rfl, .ty "dict", .base (.dK ed), kit_ty (by decide +kernel), true, rfl, iteF ?_⟩⟩
      refine ⟨_, rfl, .inl ⟨d, _, rfl, ed, 1, (kvs.length : Int), rfl, rfl, _, rfl, ?_⟩⟩
      rcases bad with b | b
      · exact iteFe (decide_eq_false (by omega)) ⟨_, rfl, iteT q⟩
      · by_cases c : (1 : Int) ≤ (kvs.length : Int)
        · exact iteTe (decide_eq_true c) ⟨_, _, rfl, rfl, _, rfl, iteTe (by rw [decide_eq_false (by omega)]; rfl) q⟩
        · exact iteFe (decide_eq_false c) ⟨_, rfl, iteT q⟩
    · refine ⟨_, rfl, .inl ⟨.ref d, .ty "dict", _, _, true, rfl, .ty "dict", .base (.dK ed), kit_ty (by decide +kernel), true, rfl, iteF ?_⟩⟩
      refine ⟨_, rfl, .inl ⟨d, _, rfl, ed, 1, (kvs.length : Int), rfl, rfl, _, rfl, ?_⟩⟩
      refine iteTe (decide_eq_true (by omega)) ⟨_, _, rfl, rfl, _, rfl, iteFe (by rw [decide_eq_true (by omega)]; rfl) ?_⟩
      refine ⟨d, _, ed, trivial, fun od => ?_⟩
      have el : upd H d (.frz od (.dK kvs)) d = some (.frz od (.dK kvs)) := upd_same
      obtain ⟨sl, back⟩ := lock (o := od) ed
      generalize upd H d (.frz od (.dK kvs)) = HL at *
      have fl := ent_len pr
      refine ⟨_, rfl, d, od, rfl, .inl ⟨_, el, fun D nD => lc_w walk_keys (fun i H' => Same HL H' ∧ H' D = some (.lst ((fs.take i).map V.bl))) ⟨same_new nD, upd_same⟩ (fun i H' z => z.1 _ _ el) ?_ ?_⟩⟩
      · rintro i H' x H2 lt ⟨s2, eD⟩ ⟨rfl, kk, vv, ek, rfl⟩
        obtain ⟨f0, ef, en⟩ := ent_get pr ek
        have tk : fs.take (i + 1) = fs.take i ++ [f0] := by rw [List.take_succ, ef]; rfl
        have l3 : ((fs.take i).map V.bl).length < sizeLine := by rw [List.length_map, List.length_take, sizeLine_eq]; omega
        have fin : ∀ H4, Same H2 H4 → ∃ acc, H4 D = some (.lst acc) ∧ acc.length < sizeLine ∧ Same HL (upd H4 D (.lst (acc ++ [V.bl f0]))) ∧ upd H4 D (.lst (acc ++ [V.bl f0])) D = some (.lst ((fs.take (i + 1)).map V.bl)) := fun H4 s4 =>
          ⟨_, s4 _ _ eD, l3, (fun q o e => by rw [upd_ne (ne_of_none e nD)]; exact s4 _ _ (s2 _ _ e)), by rw [upd_same, tk, List.map_append]; rfl⟩
        have sL : SameB d H H2 := fun q o e n => s2 _ _ (sl q o e n)
        refine ⟨rfl, yes_if ?_⟩
        rcases en with ⟨z, ez, hz, c⟩ | ⟨i0, ez, c⟩
        · have ez' : kk = .inr z := ez
          subst ez'
          refine ⟨_, rfl, .str z, rfl, .inl ⟨z, rfl, hz, _, rfl, ?_⟩⟩
          rcases c with ⟨wz, rfl⟩ | ⟨wz, ub⟩
          · rw [wz]
            exact iteF (fin _ (.refl _))
          · rw [wz]
            refine iteT ⟨_, rfl, _, rfl, d, vv, rfl, .inl ⟨kvs, .inr z, .inr ⟨od, s2 _ _ el⟩, rfl, (val_mem nd (List.mem_of_getElem? ek)).symm⟩, ub.i H2 _ sL fun H' s' => fin H' s'⟩
        · have ez' : kk = .inl i0 := ez
          subst ez' c
          exact ⟨_, rfl, .int i0, rfl, .inr ⟨_, .base (.int _), kit_ty (by decide +kernel), _, rfl, iteF (fin _ (.refl _))⟩⟩
      · rintro H' ⟨s2, eD⟩
        rw [fl, List.take_length] at eD
        refine ⟨D, fs, rfl, SqL.of eD, s2 _ _ el, ?_⟩
        exact k _ (back _ s2)
    · refine ⟨_, rfl, .inr ⟨d, rfl, ed, true, rfl, iteF ?_⟩⟩
      refine ⟨_, rfl, .inr ⟨d, rfl, ed, 1, 1, rfl, rfl, _, rfl, ?_⟩⟩
      refine iteTe (decide_eq_true (by omega)) ⟨_, _, rfl, rfl, _, rfl, iteFe (by rw [decide_eq_true (by omega)]; rfl) ?_⟩
      refine ⟨d, _, ed, trivial, fun od => ?_⟩
      have el : upd H d (.frz od (NkO P w d)) d = some (.frz od (NkO P w d)) := upd_same
      obtain ⟨sl, back⟩ := lock (o := od) ed
      generalize upd H d (.frz od (NkO P w d)) = HL at *
      refine ⟨_, rfl, d, od, rfl, .inr ⟨el, fun D nD => lc_w walk_none (fun i H' => Same HL H' ∧ H' D = some (.lst (([false].take i).map V.bl))) ⟨same_new nD, upd_same⟩ (fun i H' z => z.1 _ _ el) ?_ ?_⟩⟩
      · rintro i H' x H2 lt ⟨s2, eD⟩ ⟨rfl, rfl⟩
        obtain rfl : i = 0 := by omega
        refine ⟨rfl, yes_if ⟨_, rfl, .non, rfl, .inr ⟨_, .base .non, kit_ty (by decide +kernel), _, rfl, iteF ?_⟩⟩⟩
        exact ⟨_, eD, by show 0 < sizeLine; decide, (fun q o e => by rw [upd_ne (ne_of_none e nD)]; exact s2 _ _ e), upd_same⟩
      · rintro H' ⟨s2, eD⟩
        refine ⟨D, [false], rfl, SqL.of eD, s2 _ _ el, ?_⟩
        exact k _ (back _ s2)
theorem ok_roles (D : DefK K mg "_are_roles" s_are_roles) (T : Txt K mg) (G_is_word : Cal P w K mg base CX0 1 "is_word" (spWord K)) (G_is_use : Cal P w K mg base CX0 3 "_is_use" (spUse K)) : Cal P w K mg base CX0 4 "_are_roles" (spRoles P w K) :=
  ok_roles_ D T G_is_word (by unfold spUseI; exact G_is_use)
end

end K07

namespace K07
open PySem PySem.Spec PyProof.Rows L2 Jg
local macro_rules | `(tactic| walk_at "rd1") => `(tactic| (first
  | refine ⟨_, rfl, ?_⟩
  | refine ⟨_, _, rfl, rfl, ?_⟩
  | refine ⟨_, _, rfl, ?_⟩
  | refine ⟨rfl, ?_⟩
  | (refine ⟨show (0 : Int) < _ by omega, ?_⟩)
  | (refine ⟨Or.inl ⟨by omega, by omega⟩, ?_⟩)
  | (refine ⟨Or.inr ⟨by omega, by omega⟩, ?_⟩)
  | (refine ⟨(⟨by decide, by decide, by decide⟩ : CPow _ _), ?_⟩)
  | refine Or.inl ⟨_, rfl, ?_⟩
  | refine Or.inr ⟨_, rfl, ?_⟩
  | fail "rd"))
local macro_rules | `(tactic| walk_at "rd") => `(tactic| repeat' walk_at "rd1")


/-! ### the first wrong part -/
def RolesIs (P : Program) (w : World) (K : PySem.W.Frag) (H : Hp) (y : V) (fl : Bool) : Prop := ∀ (H' : Hp) (Q : VK), Same H H' → (∀ H2, Same H' H2 → Q (.bl fl) H2) → spRoles P w K [y] H' Q E0
/-- what is asked of needed -/
def NeedIs (K : PySem.W.Frag) (H : Hp) (y : V) (fl : Bool) : Prop := (∃ i, y = .int i ∧ fl = (decide (0 ≤ i) && decide (i ≤ 4))) ∨ (fl = false ∧ ∃ t b1 b2, (∀ H', Same H H' → TyX K H' y t) ∧ kit K t "int" b1 ∧ (b1 = true → kit K t "bool" b2) ∧ (b1 && !b2) = false)
def wrongV (f1 f2 f3 f4 : Bool) : V := if f1 = false then .str "roles" else if f2 = false then .str "vouchers" else if f3 = false then .str "needed" else if f4 = false then .str "signers" else .non
def spWrong (P : Program) (w : World) (K : PySem.W.Frag) : Sp := fun vs H Q _ => ∃ r v n s f1 f2 f3 f4, vs = [r, v, n, s] ∧ RolesIs P w K H r f1 ∧ KeysIs K H v 4 f2 ∧ NeedIs K H n f3 ∧ ((s = .non ∧ f4 = true) ∨ (s ≠ .non ∧ KeysIs K H s 4 f4)) ∧ ∀ H', Same H H' → Q (wrongV f1 f2 f3 f4) H'
@[irreducible] def spRolesI (P : Program) (w : World) (K : PySem.W.Frag) : Sp := spRoles P w K
theorem RolesIs.i {P : Program} {w : World} {K : PySem.W.Frag} {H : Hp} {y : V} {fl : Bool} (h : RolesIs P w K H y fl) (H' : Hp) (Q : VK) (s : Same H H') (q : ∀ H2, Same H' H2 → Q (.bl fl) H2) : spRolesI P w K [y] H' Q E0 := by
  unfold spRolesI
  exact h H' Q s q
section
variable {P : Program} {w : World} {K : PySem.W.Frag} {mg : Str → Option Value} {base : Heap}
abbrev s_wrong_part : Stmt := top 17
theorem sc_wrong_part : FnScope ["roles", "vouchers", "needed", "signers"] ["roles", "vouchers", "needed", "signers"] (defScope s_wrong_part) := ⟨rfl, rfl, rfl, by decide +kernel, rfl, by decide +kernel, by decide +kernel⟩
theorem ok_wrong_ (D : DefK K mg "_wrong_part" s_wrong_part) (T : Txt K mg) (G_is_integer : Cal P w K mg base CX0 1 "is_integer" (spIsInt K)) (G_are_different_keys : Cal P w K mg base CX0 2 "are_different_keys" (spKeysI K)) (G_are_roles : Cal P w K mg base CX0 4 "_are_roles" (spRolesI P w K)) : Cal P w K mg base CX0 5 "_wrong_part" (spWrong P w K) := by
  refine D.cal sc_wrong_part (fun _ _ _ _ _ _ us hl => match us, hl with | [_, _, _, _], _ => rfl) (fun vs H Q E h => ?_) fun f cdv A outer s H vs Q E hr h => ?_
  · obtain ⟨r, v, n, s, f1, f2, f3, f4, rfl, _⟩ := h; rfl
  · obtain ⟨r, v, n, sg, f1, f2, f3, f4, rfl, a1, a2, a3, a4, k⟩ := h
    refine ⟨_, (pss_cons (ps_if (pt_not (pt_val (pe_c G_are_roles hr (by decide) rfl (pa_cons (pv 0) pa_nil)))) (pss_one (ps_ret pe_str)) pss_nil)
      (pss_cons (ps_if (pt_not (pt_val (pe_c G_are_different_keys hr (by decide) rfl (pa_cons (pv 1) (pa_cons (pe_gc rfl T.g_MOST_VOUCHERS) pa_nil))))) (pss_one (ps_ret pe_str)) pss_nil)
      (pss_cons (ps_if (PW.pt (pw_or (pt_not (pt_val (pe_c G_is_integer hr (by decide) rfl (pa_cons (pv 2) pa_nil)))) (pw_or1 (pt_not (pt_chain op_le op_le pe_int (pv 2) (pe_gc rfl T.g_MOST_NEEDED)))))) (pss_one (ps_ret pe_str)) pss_nil)
      (pss_cons (ps_if (PW.pt (pw_and (pt_cmpR op_notN (pv 3) pe_non (nomark _)) (pw_and1 (pt_not (pt_val (pe_c G_are_different_keys hr (by decide) rfl (pa_cons (pv 3) (pa_cons (pe_gc rfl T.g_MOST_VOUCHERS) pa_nil)))))))) (pss_one (ps_ret pe_str)) pss_nil)
      (pss_one (ps_ret pe_non)))))), ?_⟩
    refine ⟨_, rfl, a1.i H _ (Same.refl _) fun H1 s1 => ⟨_, rfl, ?_⟩⟩
    cases f1 with
    | false => exact iteT (k _ s1)
    | true =>
      refine iteF ⟨_, rfl, a2.i H1 _ s1 fun H2 s2 => ⟨_, rfl, ?_⟩⟩
      have s12 := s1.trans s2
      cases f2 with
      | false => exact iteT (k _ s12)
      | true =>
        refine iteF ?_
        rcases a3 with ⟨i, rfl, e3⟩ | ⟨rfl, t, b1, b2, ty, k1, k2, e⟩
        · refine ⟨_, rfl, .int i, _, true, false, rfl, .base (.int i), kii, fun _ => kib, true, rfl, iteF ?_⟩
          refine ⟨_, rfl, 0, i, rfl, rfl, _, rfl, ?_⟩
          by_cases c1 : 0 ≤ i
          · refine iteTe (decide_eq_true c1) ⟨_, _, rfl, rfl, _, rfl, ?_⟩
            by_cases c2 : i ≤ 4
            · rw [decide_eq_true c1, decide_eq_true c2] at e3
              subst e3
              refine iteFe (by rw [decide_eq_true c2]; rfl) ⟨_, rfl, rfl, _, rfl, ?_⟩
              rcases a4 with ⟨rfl, rfl⟩ | ⟨nn, a4⟩
              · exact iteF (k _ s12)
              · refine iteTe (by rw [decide_eq_false nn]; rfl) ⟨_, rfl, a4.i H2 _ s12 fun H3 s3 => ⟨_, rfl, ?_⟩⟩
                cases f4 with
                | false => exact iteT (k _ (s12.trans s3))
                | true => exact iteF (k _ (s12.trans s3))
            · rw [decide_eq_false c2, Bool.and_false] at e3
              subst e3
              exact iteTe (by rw [decide_eq_false c2]; rfl) (k _ s12)
          · rw [decide_eq_false c1, Bool.false_and] at e3
            subst e3
            exact iteFe (decide_eq_false c1) ⟨_, rfl, iteT (k _ s12)⟩
        · refine ⟨_, rfl, n, t, b1, b2, rfl, ty _ s12, k1, k2, _, rfl, ?_⟩
          rw [e]
          exact iteT (k _ s12)
theorem ok_wrong (D : DefK K mg "_wrong_part" s_wrong_part) (T : Txt K mg) (G_is_integer : Cal P w K mg base CX0 1 "is_integer" (spIsInt K)) (G_are_different_keys : Cal P w K mg base CX0 2 "are_different_keys" (spKeys K)) (G_are_roles : Cal P w K mg base CX0 4 "_are_roles" (spRoles P w K)) : Cal P w K mg base CX0 5 "_wrong_part" (spWrong P w K) :=
  ok_wrong_ D T G_is_integer (by unfold spKeysI; exact G_are_different_keys) (by unfold spRolesI; exact G_are_roles)
end

end K07

namespace K07
open PySem PySem.Spec PyProof.Rows L2 Jg
local macro_rules | `(tactic| walk_at "rd1") => `(tactic| (first
  | refine ⟨_, rfl, ?_⟩
  | refine ⟨_, _, rfl, rfl, ?_⟩
  | refine ⟨_, _, rfl, ?_⟩
  | refine ⟨rfl, ?_⟩
  | (refine ⟨show (0 : Int) < _ by omega, ?_⟩)
  | (refine ⟨Or.inl ⟨by omega, by omega⟩, ?_⟩)
  | (refine ⟨Or.inr ⟨by omega, by omega⟩, ?_⟩)
  | (refine ⟨(⟨by decide, by decide, by decide⟩ : CPow _ _), ?_⟩)
  | refine Or.inl ⟨_, rfl, ?_⟩
  | refine Or.inr ⟨_, rfl, ?_⟩
  | fail "rd"))
local macro_rules | `(tactic| walk_at "rd") => `(tactic| repeat' walk_at "rd1")


/-! ### what is raised -/
structure ExnQ (K : PySem.W.Frag) (mg : Str → Option Value) (x : Str) (CI : Addr) (qual : Str) (st : Stmt) (f : Str) : Prop where
  mg_ : mg x = some (.ref CI)
  ovr : Ovr K CI
  xk : ExcK K CI
  no : PySem.W.findIn K (.ref CI) f = some none
  ini : ∃ fI fd, Fun K "__init__" qual st fI fd ∧ PySem.W.findIn K (.ref CI) "__init__" = some (some (.ref fI)) ∧ PySem.W.typeIn K (.ref fI) = some (.type "function")
  te : PySem.W.exmOne K (.ref CI) (.ref CI) = some true
theorem same_mut {H H1 : Hp} {p : Addr} {o : HO} (s : Same H H1) (h : H p = none) : Same H (upd H1 p o) := fun b u e => by rw [upd_ne (ne_of_none e h)]; exact s b u e
/-! ### keys as they are given -/
structure KL where
  a : Addr
  b : Bool
  ks : List Str
structure KLOk (K : PySem.W.Frag) (H : Hp) (l : KL) : Prop where
  sq : SqE K l.b H l.a (l.ks.map V.str)
  ty : ∀ H', Same H H' → TyX K H' (.ref l.a) (.type (if l.b then "list" else "tuple"))
  few : l.ks.length ≤ 500
  sh : ∀ k ∈ l.ks, k.length ≤ sizeLine
theorem KLOk.keep {K : PySem.W.Frag} {H H' : Hp} {l : KL} (h : KLOk K H l) (s : Same H H') : KLOk K H' l := ⟨SqE.keep h.sq s, fun H2 s2 => h.ty H2 (s.trans s2), h.few, h.sh⟩
theorem KLOk.its {K : PySem.W.Frag} {H : Hp} {l : KL} (h : KLOk K H l) : ∀ x ∈ l.ks.map V.str, ItOk K H x := fun x hx => by
  obtain ⟨z, hz, rfl⟩ := List.mem_map.mp hx
  exact .inl ⟨z, rfl, h.sh z hz⟩
theorem KLOk.is {K : PySem.W.Frag} {H : Hp} {l : KL} (h : KLOk K H l) (m : Int) : KeysIs K H (.ref l.a) m (keysB (l.ks.map V.str) m) := fun H' Q s q =>
  ⟨.ref l.a, m, rfl, .inl ⟨l.a, l.b, _, rfl, (h.keep s).sq, (h.keep s).ty, by rw [List.length_map]; exact h.few, (h.keep s).its, q⟩⟩
theorem row_ent {K : PySem.W.Frag} {d : Addr} {H : Hp} {r : Row} (R : RowOk K d H r) : EntB K d H (.inr r.z, .ref r.t) (rowB r) := by
  refine .inl ⟨r.z, rfl, R.zu.1, ?_⟩
  unfold rowB
  cases c : wordB r.z with
  | false => exact .inl ⟨rfl, rfl⟩
  | true =>
    refine .inr ⟨rfl, fun H' Q s q => ⟨_, rfl, .inr (.inr ⟨r.t, .ref r.a, .str r.u, keysB (r.ks.map V.str) 8, wordB r.u, rfl, s _ _ R.at_ R.nt, fun H2 Q2 s2 q2 => ⟨.ref r.a, 8, rfl, .inl ⟨r.a, r.b, r.ks.map V.str, rfl, SqE.keep (SqE.lock (b := r.b) R.sq s R.na) s2, fun H3 s3 => R.ty H3 fun b o e n => s3 _ _ (s2 _ _ (s b o e n)), by rw [List.length_map]; exact R.few, fun x hx => ?_, q2⟩⟩, .inl ⟨r.u, rfl, R.zu.2, rfl⟩, q⟩)⟩⟩
    obtain ⟨z, hz, rfl⟩ := List.mem_map.mp hx
    exact .inl ⟨z, rfl, R.sh z hz⟩
theorem rows_ent {K : PySem.W.Frag} {d : Addr} {H : Hp} : ∀ {rows : List Row}, (∀ r ∈ rows, RowOk K d H r) → Paired (EntB K d H) (dictOf rows) (rows.map rowB)
  | [], _ => .nil
  | r :: rest, h => .cons (row_ent (h r List.mem_cons_self)) (rows_ent fun q hq => h q (List.mem_cons_of_mem _ hq))
theorem ents_keep {K : PySem.W.Frag} {d : Addr} {H H' : Hp} (s : SameB d H H') : ∀ {kvs : List (Key × V)} {fs : List Bool}, Paired (EntB K d H) kvs fs → Paired (EntB K d H') kvs fs
  | _, _, .nil => .nil
  | _, _, .cons a r => .cons (a.keep s) (ents_keep s r)
theorem roles_of {P : Program} {w : World} {K : PySem.W.Frag} {H : Hp} {d : Addr} {kvs : List (Key × V)} {fs : List Bool} (ed : H d = some (.dK kvs)) (h1 : 1 ≤ kvs.length) (h3 : kvs.length ≤ 3) (nd : (kvs.map (·.1)).Nodup) (pr : Paired (EntB K d H) kvs fs) : RolesIs P w K H (.ref d) (fs.all id) := fun H' Q s q =>
  ⟨_, rfl, .inr (.inr (.inl ⟨d, kvs, fs, rfl, s _ _ ed, h1, h3, nd, ents_keep (fun b o e _ => s b o e) pr, q⟩))⟩
theorem roles_is {P : Program} {w : World} {K : PySem.W.Frag} {H : Hp} {d : Addr} {rows : List Row} (ed : H d = some (.dK (dictOf rows))) (h1 : 1 ≤ rows.length) (h3 : rows.length ≤ 3) (nd : (rows.map (·.z)).Nodup) (ok : ∀ r ∈ rows, RowOk K d H r) : RolesIs P w K H (.ref d) (rows.all rowB) := by
  have dl : (dictOf rows).length = rows.length := List.length_map ..
  have al : (rows.map rowB).all id = rows.all rowB := by rw [List.all_map]; rfl
  rw [← al]
  refine roles_of ed (by omega) (by omega) ?_ (rows_ent ok)
  have e : (dictOf rows).map (·.1) = (rows.map (·.z)).map Sum.inr := by unfold dictOf; rw [List.map_map, List.map_map]; rfl
  rw [e]
  exact List.pairwise_map.mpr (List.Pairwise.imp (fun h q => h (Sum.inr.inj q)) nd)
theorem needs_is {K : PySem.W.Frag} {H : Hp} {ne : Int} (h0 : 0 ≤ ne) (h4 : ne ≤ 4) : NeedIs K H (.int ne) true := .inl ⟨ne, rfl, by rw [decide_eq_true h0, decide_eq_true h4]; rfl⟩
theorem NeedIs.keep {K : PySem.W.Frag} {H H' : Hp} {y : V} {fl : Bool} (h : NeedIs K H y fl) (s : Same H H') : NeedIs K H' y fl := h.imp id fun ⟨e, t, b1, b2, ty, r⟩ => ⟨e, t, b1, b2, fun H2 s2 => ty H2 (s.trans s2), r⟩
theorem keys_once {ks : List Str} {m : Int} (h : keysB (ks.map V.str) m = true) : ks.Nodup ∧ (ks.length : Int) ≤ m ∧ ∀ k ∈ ks, wordB k = true := by
  unfold keysB at h
  obtain ⟨h1, h2⟩ := Bool.and_eq_true_iff.mp h
  obtain ⟨h3, h4⟩ := Bool.and_eq_true_iff.mp h2
  have e : (ks.map V.str).map txV = ks := by rw [List.map_map]; exact (List.map_congr_left fun _ _ => rfl).trans (List.map_id ks)
  rw [e, List.length_map] at h4
  rw [List.length_map] at h1
  have nd := (onceW_all ks []).mp (by simpa [onceW] using of_decide_eq_true h4)
  refine ⟨nd.1, ?_, fun k hk => List.all_eq_true.mp h3 _ (List.mem_map_of_mem hk)⟩
  have z : ¬ m < (ks.length : Int) := by simpa using h1
  omega
theorem once_perm {ks : List Str} (h : ks.Nodup) : (onceW ks).Perm ks := by
  exact (List.perm_ext_iff_of_nodup (l₁ := onceW ks) (onceW_nodup ks [] List.nodup_nil) h).mpr fun z => onceW_mem
/-! ### contents as they stand -/
structure Use where
  z : Str
  t : Addr
  a : Addr
  ks : List Str
  u : Str
def dictU (us : List Use) : List (Key × V) := us.map fun r => (Sum.inr r.z, V.ref r.t)
structure UAt (S : Addr → Prop) (H : Hp) (r : Use) : Prop where
  tp : H r.t = some (.tup [.ref r.a, .str r.u])
  ls : H r.a = some (.lst (r.ks.map V.str))
  st : S r.t
  sa : S r.a
structure Ct where
  us : List Use
  vo : List Str
  ne : Int
  si : List Str
def cflds (d v : Addr) (n : Int) (s : Addr) : List (Str × V) := [("_uses", .ref d), ("_vouchers", .ref v), ("_needed", .int n), ("_signers", .ref s)]
structure CAt (S : Addr → Prop) (C : Addr) (H : Hp) (x : Addr) (c : Ct) : Prop where
  ex : ∃ dx d v s, H x = some (.ins C dx (cflds d v c.ne s)) ∧ H d = some (.dK (dictU c.us)) ∧ H v = some (.lst (c.vo.map V.str)) ∧ H s = some (.lst (c.si.map V.str)) ∧ S x ∧ S d ∧ S v ∧ S s
  uses : ∀ r ∈ c.us, UAt S H r
structure KsOk (ks : List Str) (m : Nat) : Prop where
  nd : ks.Nodup
  so : sortedS ks = true
  le : ks.length ≤ m
  w : ∀ k ∈ ks, wordB k = true
structure CtOk (c : Ct) : Prop where
  n1 : 1 ≤ c.us.length
  n3 : c.us.length ≤ 3
  nd : (c.us.map (·.z)).Nodup
  so : sortedS (c.us.map (·.z)) = true
  us : ∀ r ∈ c.us, KsOk r.ks 8 ∧ wordB r.z = true ∧ wordB r.u = true
  vo : KsOk c.vo 4
  si : KsOk c.si 4
  ne : 0 ≤ c.ne ∧ c.ne ≤ 4
/-- contents that are made of what was given -/
structure Made (rows : List Row) (vks : List Str) (ne : Int) (sks : List Str) (c : Ct) : Prop where
  zs : c.us.map (·.z) = srtW (rows.map (·.z))
  us : ∀ r ∈ c.us, ∃ q ∈ rows, q.z = r.z ∧ q.u = r.u ∧ r.ks = srtW q.ks
  vo : c.vo = srtW vks
  ne : c.ne = ne
  si : c.si = srtW sks
theorem CAt.keep {S : Addr → Prop} {C : Addr} {H H' : Hp} {x : Addr} {c : Ct} (h : CAt S C H x c) (s : ∀ q o, H q = some o → S q → H' q = some o) : CAt S C H' x c := by
  obtain ⟨⟨dx, d, v, sg, e1, e2, e3, e4, k1, k2, k3, k4⟩, us⟩ := h
  exact ⟨⟨dx, d, v, sg, s _ _ e1 k1, s _ _ e2 k2, s _ _ e3 k3, s _ _ e4 k4, k1, k2, k3, k4⟩, fun r hr => ⟨s _ _ (us r hr).tp (us r hr).st, s _ _ (us r hr).ls (us r hr).sa, (us r hr).st, (us r hr).sa⟩⟩
theorem CAt.same {S : Addr → Prop} {C : Addr} {H H' : Hp} {x : Addr} {c : Ct} (h : CAt S C H x c) (s : Same H H') : CAt S C H' x c := h.keep fun q o e _ => s q o e
theorem CAt.wider {S S' : Addr → Prop} {C : Addr} {H : Hp} {x : Addr} {c : Ct} (h : CAt S C H x c) (s : ∀ q, S q → S' q) : CAt S' C H x c := by
  obtain ⟨⟨dx, d, v, sg, e1, e2, e3, e4, k1, k2, k3, k4⟩, us⟩ := h
  exact ⟨⟨dx, d, v, sg, e1, e2, e3, e4, s _ k1, s _ k2, s _ k3, s _ k4⟩, fun r hr => ⟨(us r hr).tp, (us r hr).ls, s _ (us r hr).st, s _ (us r hr).sa⟩⟩
theorem ksOk_srt {ks : List Str} {m : Nat} (h : keysB (ks.map V.str) m = true) : KsOk (srtW ks) m := by
  obtain ⟨h1, h2, h3⟩ := keys_once h
  exact ⟨srtW_nodup.mpr h1, srtW_sorted _, by rw [srtW_len]; omega, fun k hk => h3 k (srtW_mem.mp hk)⟩
theorem val_use : ∀ (us : List Use) (z : Str), z ∉ us.map (·.z) → valV (dictU us) (Sum.inr z) = none
  | [], _, _ => rfl
  | r :: rest, z, h => by
    rw [List.map_cons, List.mem_cons, not_or] at h
    show valV ((Sum.inr r.z, V.ref r.t) :: dictU rest) (Sum.inr z) = none
    rw [valV_neg (fun q => h.1 (Sum.inr.inj q).symm)]
    exact val_use rest z h.2
theorem put_use {us : List Use} {r : Use} (h : r.z ∉ us.map (·.z)) : putK (dictU us) (Sum.inr r.z) (V.ref r.t) = dictU (us ++ [r]) := by
  rw [putK_new _ (val_use us _ h)]
  unfold dictU
  rw [List.map_append]; rfl
theorem UAt.put {S : Addr → Prop} {H H' : Hp} {r : Use} (h : UAt S H r) (s : ∀ q o, H q = some o → (∃ xs, o = .lst xs) ∨ (∃ xs, o = .tup xs) → H' q = some o) : UAt S H' r := ⟨s _ _ h.tp (.inr ⟨_, rfl⟩), s _ _ h.ls (.inl ⟨_, rfl⟩), h.st, h.sa⟩
/-- the class's facts -/
structure CTx (K : PySem.W.Frag) (mg : Str → Option Value) (C : Addr) : Prop where
  cl : Cls K C
  cC : mg "Contents" = some (.ref C)
  cls_ : PySem.W.findIn K (.ref C) "__class__" = some (some (.builtin "object.__class__"))
  cgt : PySem.W.specialIn K (.builtin "object.__class__") "__get__" = some (some (.builtin "getset_descriptor.__get__"))
  ctk : PySem.W.takesIn K (.builtin "object.__class__") = some true
  mro : PySem.W.mroIn K C (.type "object") = some true
  ne : PySem.W.findIn K (.ref C) "__ne__" = some (some (.builtin "object.__ne__"))
  kCC : PySem.W.kitOne K (.ref C) (.ref C) = some true
  kN : PySem.W.kitOne K (.type "NoneType") (.ref C) = some false
  kI : PySem.W.kitOne K (.type "int") (.ref C) = some false
  kS : PySem.W.kitOne K (.type "str") (.ref C) = some false
  kL : PySem.W.kitOne K (.type "list") (.ref C) = some false
  kT : PySem.W.kitOne K (.type "tuple") (.ref C) = some false
  kD : PySem.W.kitOne K (.type "dict") (.ref C) = some false
  oCC : PySem.W.notFirst K C (.ref C) = true
  oN : PySem.W.notFirst K C (.type "NoneType") = true
  oI : PySem.W.notFirst K C (.type "int") = true
  oS : PySem.W.notFirst K C (.type "str") = true
  oL : PySem.W.notFirst K C (.type "list") = true
  oT : PySem.W.notFirst K C (.type "tuple") = true
  oD : PySem.W.notFirst K C (.type "dict") = true
  nu : NoAttr K C "_uses"
  nv : NoAttr K C "_vouchers"
  nn : NoAttr K C "_needed"
  ns : NoAttr K C "_signers"
theorem put_v (d v : V) : putF "_vouchers" v [(("_uses" : Str), d)] = [(("_uses" : Str), d), ("_vouchers", v)] := by
  have e : ¬ (("_uses" : Str) = "_vouchers") := by decide +kernel
  show (if ("_uses" : Str) = "_vouchers" then _ else _) = _
  rw [if_neg e]; rfl
theorem put_n (d v n : V) : putF "_needed" n [(("_uses" : Str), d), ("_vouchers", v)] = [(("_uses" : Str), d), ("_vouchers", v), ("_needed", n)] := by
  have e : ¬ (("_uses" : Str) = "_needed") := by decide +kernel
  have e2 : ¬ (("_vouchers" : Str) = "_needed") := by decide +kernel
  show (if ("_uses" : Str) = "_needed" then _ else _ :: (if ("_vouchers" : Str) = "_needed" then _ else _)) = _
  rw [if_neg e, if_neg e2]; rfl
theorem put_s (d v n s : V) : putF "_signers" s [(("_uses" : Str), d), ("_vouchers", v), ("_needed", n)] = [(("_uses" : Str), d), ("_vouchers", v), ("_needed", n), ("_signers", s)] := by
  have e : ¬ (("_uses" : Str) = "_signers") := by decide +kernel
  have e2 : ¬ (("_vouchers" : Str) = "_signers") := by decide +kernel
  have e3 : ¬ (("_needed" : Str) = "_signers") := by decide +kernel
  show (if ("_uses" : Str) = "_signers" then _ else _ :: (if ("_vouchers" : Str) = "_signers" then _ else _ :: (if ("_needed" : Str) = "_signers" then _ else _))) = _
  rw [if_neg e, if_neg e2, if_neg e3]; rfl
/-- what is given to Contents, all of it right -/
structure Right (K : PySem.W.Frag) (H : Hp) (r v n s : V) (rows : List Row) (lv : KL) (ne : Int) (so : Option KL) : Prop where
  r_ : ∃ d, r = .ref d ∧ H d = some (.dK (dictOf rows)) ∧ ∀ q ∈ rows, RowOk K d H q
  n1 : 1 ≤ rows.length
  n3 : rows.length ≤ 3
  nd : (rows.map (·.z)).Nodup
  rb : rows.all rowB = true
  v_ : v = .ref lv.a ∧ KLOk K H lv ∧ keysB (lv.ks.map V.str) 4 = true
  n_ : n = .int ne ∧ 0 ≤ ne ∧ ne ≤ 4
  s_ : (s = .non ∧ so = none) ∨ ∃ l, s = .ref l.a ∧ so = some l ∧ KLOk K H l ∧ keysB (l.ks.map V.str) 4 = true
def sgOf (lv : KL) (so : Option KL) : List Str := (so.getD lv).ks
/-- .. and some of it wrong -/
def Wrongly (P : Program) (w : World) (K : PySem.W.Frag) (H : Hp) (r v n s : V) (y : V) : Prop := ∃ f1 f2 f3 f4, RolesIs P w K H r f1 ∧ KeysIs K H v 4 f2 ∧ NeedIs K H n f3 ∧ ((s = .non ∧ f4 = true) ∨ (s ≠ .non ∧ KeysIs K H s 4 f4)) ∧ wrongV f1 f2 f3 f4 = y ∧ y ≠ .non
def spCInit (P : Program) (w : World) (K : PySem.W.Frag) (C CI : Addr) : Sp := fun vs H Q E => ∃ x dx r v n s H0, vs = [.ref x, r, v, n, s] ∧ H x = some (.ins C dx []) ∧ Same H0 H ∧ H0 x = none ∧
  ((∃ rows lv ne so, Right K H0 r v n s rows lv ne so ∧ ∀ H' c, CAt (fun q => H0 q = none) C H' x c → Made rows lv.ks ne (sgOf lv so) c → CtOk c → Same H0 H' → Q .non H') ∨
   (∃ y, Wrongly P w K H0 r v n s y ∧ ∀ d H', H0 d = none → Same H0 H' → H' d = some (.xd [(("part" : Str), y)]) → E (.ref CI) (some d) H'))
section
variable {P : Program} {w : World} {K : PySem.W.Frag} {mg : Str → Option Value} {base : Heap} {C CI : Addr}
abbrev s_InvalidContents_init : Stmt := inClass (top 3) 0
theorem sc_InvalidContents_init : FnScope ["self", "part"] ["self", "part"] (defScope s_InvalidContents_init) := ⟨rfl, rfl, rfl, by decide +kernel, rfl, by decide +kernel, by decide +kernel⟩
theorem ok_cxinit (D : ExnQ K mg "InvalidContents" CI "InvalidContents.__init__" s_InvalidContents_init "part") : ExnB P w K mg base 1 "InvalidContents" CI (spX CI "part") := by
  obtain ⟨fI, fd, F, a, ty⟩ := D.ini
  refine ⟨D.mg_, D.ovr, fI, fd, _, F.ok sc_InvalidContents_init (fun vs H Q E h => ?_) (fun cdv A outer s H vs Q E hr h => ?_), a, ty, F.binds (fun _ _ _ _ _ _ us hl => match us, hl with | [_, _], _ => rfl)⟩
  · obtain ⟨a, y, rfl, _⟩ := h; rfl
  · obtain ⟨a, y, rfl, ha, k⟩ := h
    exact ⟨_, (pss_one (ps_keep (pv 0) (pv 1))), _, rfl, _, rfl, a, CI, rfl, D.ovr, D.no, ha, fun dx n e => k dx n e⟩
abbrev s_Contents_init : Stmt := inClass (top 19) 0
theorem sc_Contents_init : FnScope ["self", "roles", "vouchers", "needed", "signers", "part", "role", "accepted", "used"] ["self", "roles", "vouchers", "needed", "signers"] (defScope s_Contents_init) := ⟨rfl, rfl, rfl, by decide +kernel, rfl, by decide +kernel, by decide +kernel⟩
theorem body_cinit (T : Txt K mg) (J : CTx K mg C) (G_wrong_part : Cal P w K mg base CX0 5 "_wrong_part" (spWrong P w K)) (G_in_order : Cal P w K mg base CX0 1 "_in_order" (spOrder K)) (G_InvalidContents : ExnB P w K mg base 1 "InvalidContents" CI (spX CI "part"))
    (f : Addr) : BodyX P w K mg base ["self", "roles", "vouchers", "needed", "signers", "part", "role", "accepted", "used"] "Contents.__init__" s_Contents_init f 6 (spCInit P w K C CI) := by
  intro cdv A outer s H vs Q E hr h
  obtain ⟨x, dx, r, v, n, sg, H0, rfl, hx, s0, n0, h⟩ := h
  have hu1 : (A.deeper (envOfC "Contents.__init__" (defScope s_Contents_init) s.heap.objs.size f cdv)).units + 1 < cLine := Nat.lt_of_le_of_lt (Nat.add_le_add_left (by decide : 1 ≤ 64) _) hr.units
  refine ⟨_, (pss_cons (ps_set (i := 5) sc_Contents_init.nd rfl (Or.inl rfl) (pe_c G_wrong_part hr (by decide) rfl (pa_cons (pv 1) (pa_cons (pv 2) (pa_cons (pv 3) (pa_cons (pv 4) pa_nil))))))
      (pss_cons (ps_if (pt_cmpR op_notN (pv 5) pe_non (nomark _)) (pss_one (ps_raise rfl (takes_of rfl rfl rfl rfl) (pmk_b G_InvalidContents hr (by decide) rfl (pa_cons (pv 5) pa_nil)))) pss_nil)
      (pss_cons (ps_fld (pv 0) pe_dnewK rfl)
      (pss_cons (ps_for (passes_of rfl) rfl (pi_list (pe_c G_in_order hr (by decide) rfl (pa_cons (pe_callTy (call_list_dK rfl) (by rfl) T.b_list (by decide +kernel) (pa_cons (pv 1) pa_nil)) pa_nil))) (pg_name (i := 6) sc_Contents_init.nd rfl (Or.inl rfl)) (pss_cons (ps_asg (pe_dget hu1 (pv 1) (pv 6) (fun _ _ => rfl)) (pg_tup rfl (pgs_cons (pg_name (i := 7) sc_Contents_init.nd rfl (Or.inl rfl)) (pgs_cons (pg_name (i := 8) sc_Contents_init.nd rfl (Or.inl rfl)) pgs_nil))))
      (pss_one (ps_dput hu1 (pe_fld (pv 0) rfl) (pv 6) (pe_tup (pa_cons (pe_c G_in_order hr (by decide) rfl (pa_cons (pv 7) pa_nil)) (pa_cons (pv 8) pa_nil))) rfl))))
      (pss_cons (ps_fld (pv 0) (pe_c G_in_order hr (by decide) rfl (pa_cons (pv 2) pa_nil)) rfl)
      (pss_cons (ps_fld (pv 0) (pv 3) rfl)
      (pss_one (ps_fld (pv 0) (pe_c G_in_order hr (by decide) rfl (pa_cons (pe_ifExp (pt_cmpR op_isN (pv 4) pe_non (nomark _)) (pv 2) (pv 4)) pa_nil)) rfl)))))))), ?_⟩
  have npos : (0 : Nat) < 1000 := by decide
  have one : (1 : Nat) < 1000 := by decide
  have two : (2 : Nat) < 1000 := by decide
  have three : (3 : Nat) < 1000 := by decide
  rcases h with ⟨rows, lv, ne, so, R, q⟩ | ⟨y, ⟨f1, f2, f3, f4, i1, i2, i3, i4, ey, ny⟩, k⟩
  · obtain ⟨d0, rfl, ed0, ok⟩ := R.r_
    obtain ⟨rfl, lvk, lvb⟩ := R.v_
    obtain ⟨rfl, ne0, ne4⟩ := R.n_
    have i1 : RolesIs P w K H0 (.ref d0) true := R.rb ▸ roles_is (P := P) (w := w) ed0 R.n1 R.n3 R.nd ok
    have i2 : KeysIs K H0 (.ref lv.a) 4 true := lvb ▸ lvk.is 4
    have i4 : (sg = .non ∧ true = true) ∨ (sg ≠ .non ∧ KeysIs K H0 sg 4 true) := by
      rcases R.s_ with ⟨rfl, _⟩ | ⟨l, rfl, _, lk, lb⟩
      · exact .inl ⟨rfl, rfl⟩
      · exact .inr ⟨(fun z => nomatch z), lb ▸ lk.is 4⟩
    refine ⟨_, rfl, _, rfl, _, rfl, _, rfl, .ref d0, .ref lv.a, .int ne, sg, true, true, true, true, rfl, fun H' Q s q => i1 H' Q (s0.trans s) q, fun H' Q s q => i2 H' Q (s0.trans s) q, needs_is ne0 ne4, i4.imp id fun z => ⟨z.1, fun H' Q s q => z.2 H' Q (s0.trans s) q⟩, fun H1 s1 => ?_⟩
    refine ⟨_, rfl, rfl, _, rfl, iteF ?_⟩
    have s01 := s0.trans s1
    refine fun d nd => ⟨_, rfl, x, C, dx, [], rfl, by rw [upd_ne (ne_of_none (s1 _ _ hx) nd)]; exact s1 _ _ hx, J.cl, J.nu, npos, ?_⟩
    rw [show putF "_uses" (V.ref d) [] = [(("_uses" : Str), V.ref d)] from rfl]
    have nx1 : x ≠ d := ne_of_none (s1 _ _ hx) nd
    have nd0 : H0 d = none := s01.free nd
    have sA : Same H0 (upd (upd H1 d (.dK [])) x (.ins C dx [(("_uses" : Str), V.ref d)])) := same_mut (same_new' s01 nd) n0
    have xA : upd (upd H1 d (.dK [])) x (.ins C dx [(("_uses" : Str), V.ref d)]) x = some (.ins C dx [(("_uses" : Str), V.ref d)]) := upd_same
    have dA : upd (upd H1 d (.dK [])) x (.ins C dx [(("_uses" : Str), V.ref d)]) d = some (.dK []) := by rw [upd_ne nx1.symm, upd_same]
    generalize upd (upd H1 d (.dK [])) x (.ins C dx [(("_uses" : Str), V.ref d)]) = HA at *
    have mz : (dictOf rows).map (fun kv => kV kv.1) = (rows.map (·.z)).map V.str := by unfold dictOf; rw [List.map_map, List.map_map]; rfl
    refine ⟨_, rfl, d0, dictOf rows, rfl, sA _ _ ed0, fun q9 nq => ⟨q9, true, rows.map (·.z), rfl, ?_, by rw [List.length_map]; exact Nat.le_trans R.n3 (by decide), fun ys p H2 pm sy np s2 ep => ⟨p, rfl, ⟨_, SqL.of ep⟩, ?_⟩⟩⟩
    · rw [mz]; exact SqL.of upd_same
    have pl : (ys.length : Nat) ≤ 3 := by
      have z := pm.length_eq
      have z2 := onceW_len (rows.map (·.z))
      have z3 := R.n3
      rw [List.length_map] at z2
      omega
    have pm2 : ys.Perm (rows.map (·.z)) := pm.trans (once_perm R.nd)
    have ynd : ys.Nodup := pm2.nodup_iff.mpr R.nd
    have sB : Same H0 H2 := (same_new' sA nq).trans s2
    have xB : H2 x = some (.ins C dx [(("_uses" : Str), V.ref d)]) := s2 _ _ (by rw [upd_ne (ne_of_none xA nq)]; exact xA)
    have dB : H2 d = some (.dK []) := s2 _ _ (by rw [upd_ne (ne_of_none dA nq)]; exact dA)
    have np0 : H0 p = none := (same_new' sA nq).free np
    refine for_list (K := K) (a := p) (xs := ys.map V.str) (fun i sg' Hi => ∃ v6 v7 v8 : Option V, sg' = [some (.ref x), some (.ref d0), some (.ref lv.a), some (.int ne), some sg, some .non, v6, v7, v8] ∧ ∃ us : List Use, us.map (·.z) = ys.take i ∧ Hi x = some (.ins C dx [(("_uses" : Str), V.ref d)]) ∧ Hi d = some (.dK (dictU us)) ∧ Hi p = some (.lst (ys.map V.str)) ∧ Same H0 Hi ∧ ∀ r ∈ us, UAt (fun q => H0 q = none) Hi r ∧ ∃ q ∈ rows, q.z = r.z ∧ q.u = r.u ∧ r.ks = srtW q.ks)
      ⟨_, _, _, rfl, [], rfl, xB, dB, ep, sB, fun _ h => nomatch h⟩ (fun i sg' Hi _ ⟨_, _, _, _, us, _, _, _, e, _⟩ => SqL.of e) ?_ ?_
    · rintro i v sg' Hi hv ⟨v6, v7, v8, rfl, us, uz, xi, di, pi, si, ui⟩
      obtain ⟨z, ez, rfl⟩ : ∃ z, ys[i]? = some z ∧ v = .str z := by
        rw [List.getElem?_map] at hv
        cases c : ys[i]? with
        | none => rw [c] at hv; cases hv
        | some z => rw [c] at hv; exact ⟨z, rfl, (Option.some.inj hv).symm⟩
      have zin : z ∈ rows.map (·.z) := pm2.mem_iff.mp (List.mem_of_getElem? ez)
      obtain ⟨rq, rin, rfl⟩ := List.mem_map.mp zin
      have rok := ok rq rin
      have rB := List.all_eq_true.mp R.rb rq rin
      have kB : keysB (rq.ks.map V.str) 8 = true := by unfold rowB at rB; exact (Bool.and_eq_true_iff.mp (Bool.and_eq_true_iff.mp rB).2).1
      have k1 := keys_once kB
      have tk : ys.take (i + 1) = ys.take i ++ [rq.z] := by rw [List.take_succ, ez]; rfl
      have ztk : rq.z ∉ us.map (·.z) := by
        rw [uz]
        intro hm
        have nd2 : (ys.take (i + 1)).Nodup := ynd.sublist (List.take_sublist _ _)
        rw [tk, List.nodup_append] at nd2
        exact nd2.2.2 _ hm _ (List.mem_singleton.mpr rfl) rfl
      have ul : us.length ≤ 3 := by
        have z1 := congrArg List.length uz
        rw [List.length_map, List.length_take] at z1
        omega
      refine ⟨_, rfl, _, rfl, d0, .ref rq.t, rfl, by rw [← val_row rows rq R.nd rin]; exact DGet.k (k := Sum.inr rq.z) (si _ _ ed0), rq.t, _, rfl, SqT.of (si _ _ rok.at_), rfl, _, _, rfl, _, _, rfl, rfl, ?_⟩
      refine ⟨_, rfl, rq.a, rq.b, rq.ks, rfl, SqE.keep rok.sq si, by have := k1.2.1; omega, fun y2 p2 H3 pm3 so3 np2 s3 ep2 => ⟨_, rfl, by show 2 ≤ sizeLine; decide, fun t nt => ?_⟩⟩
      have s3' : Same Hi (upd H3 t (.tup [.ref p2, .str rq.u])) := same_new' s3 nt
      have xi2 := s3' _ _ xi
      have di2 := s3' _ _ di
      have pi2 := s3' _ _ pi
      have si2 := si.trans s3'
      have np3 : H0 p2 = none := si.free np2
      have nt3 : H0 t = none := si.free (s3.free nt)
      have ui2 : ∀ r ∈ us, UAt (fun q => H0 q = none) (upd H3 t (.tup [.ref p2, .str rq.u])) r := fun r hr => (ui r hr).1.put fun q o e _ => s3' _ _ e
      have et2 : upd H3 t (.tup [.ref p2, .str rq.u]) t = some (.tup [.ref p2, .str rq.u]) := upd_same
      have ep3 : upd H3 t (.tup [.ref p2, .str rq.u]) p2 = some (.lst (y2.map V.str)) := by rw [upd_ne (ne_of_none ep2 nt)]; exact ep2
      refine ⟨_, rfl, x, C, dx, _, _, rfl, xi2, J.cl, J.nu, rfl, _, rfl, d, _, rfl, DPut.k (k := Sum.inr rq.z) di2 (by unfold dictU; rw [List.length_map, sizeLine_eq]; omega), ?_⟩
      generalize upd H3 t (.tup [.ref p2, .str rq.u]) = H4 at *
      have eq : putK (dictU us) (Sum.inr rq.z) (V.ref t) = dictU (us ++ [⟨rq.z, t, p2, y2, rq.u⟩]) := put_use (r := ⟨rq.z, t, p2, y2, rq.u⟩) ztk
      rw [eq]
      have dx2 : x ≠ d := ne_of xi2 di2 (by intro z; cases z)
      have keepU : ∀ r, UAt (fun q => H0 q = none) H4 r → UAt (fun q => H0 q = none) (upd H4 d (.dK (dictU (us ++ [⟨rq.z, t, p2, y2, rq.u⟩])))) r := fun r h => h.put fun q o e k => by
        rw [upd_ne (ne_of e di2 (by rcases k with ⟨_, rfl⟩ | ⟨_, rfl⟩ <;> (intro z; cases z)))]; exact e
      refine ⟨_, _, _, rfl, us ++ [⟨rq.z, t, p2, y2, rq.u⟩], by rw [List.map_append, uz, tk]; rfl, by rw [upd_ne dx2]; exact xi2, upd_same, by rw [upd_ne (ne_of pi2 di2 (by intro z; cases z))]; exact pi2, same_mut si2 nd0, fun r hr => ?_⟩
      rcases List.mem_append.mp hr with hr | hr
      · exact ⟨keepU r (ui2 r hr), (ui r hr).2⟩
      · obtain rfl := List.mem_singleton.mp hr
        exact ⟨keepU _ ⟨et2, ep3, nt3, np3⟩, rq, rin, rfl, rfl, srt_eq so3 (pm3.trans (once_perm k1.1))⟩
    · rintro sg' Hi ⟨v6, v7, v8, rfl, us, uz, xi, di, pi, si, ui⟩
      rw [List.length_map, List.take_length] at uz
      have nl0 : ∀ {l : KL} {m : Int}, keysB (l.ks.map V.str) m = true → m ≤ 4 → l.ks.length ≤ 60 := fun h hm => by have := (keys_once h).2.1; omega
      -- what stands so far stays
      have go : ∀ H', Same H0 H' → (∀ q o, Hi q = some o → q ≠ x → H' q = some o) → H' d = some (.dK (dictU us)) ∧ ∀ r ∈ us, UAt (fun q => H0 q = none) H' r := fun H' _ k =>
        ⟨k _ _ di (ne_of di xi (by intro z; cases z)), fun r hr => (ui r hr).1.put fun q o e j => k _ _ e (ne_of e xi (by rcases j with ⟨_, rfl⟩ | ⟨_, rfl⟩ <;> (intro z; cases z)))⟩
      refine ⟨_, rfl, lv.a, lv.b, lv.ks, rfl, SqE.keep lvk.sq si, nl0 lvb (by decide), fun vs2 pv H5 pmv sov npv s5 epv => ⟨_, rfl, x, C, dx, _, rfl, s5 _ _ xi, J.cl, J.nv, one, ?_⟩⟩
      rw [put_v]
      have npv0 : H0 pv = none := si.free npv
      have s05 := si.trans s5
      have x6 : upd H5 x (.ins C dx [(("_uses" : Str), V.ref d), ("_vouchers", .ref pv)]) x = some (.ins C dx [(("_uses" : Str), V.ref d), ("_vouchers", .ref pv)]) := upd_same
      refine ⟨_, rfl, _, rfl, x, C, dx, _, rfl, x6, J.cl, J.nn, two, ?_⟩
      rw [put_n, upd_upd]
      have x7 : upd H5 x (.ins C dx [(("_uses" : Str), V.ref d), ("_vouchers", .ref pv), ("_needed", .int ne)]) x = some (.ins C dx [(("_uses" : Str), V.ref d), ("_vouchers", .ref pv), ("_needed", .int ne)]) := upd_same
      have s07 : Same H0 (upd H5 x (.ins C dx [(("_uses" : Str), V.ref d), ("_vouchers", .ref pv), ("_needed", .int ne)])) := same_mut s05 n0
      have k7 : ∀ q o, H5 q = some o → q ≠ x → upd H5 x (.ins C dx [(("_uses" : Str), V.ref d), ("_vouchers", .ref pv), ("_needed", .int ne)]) q = some o := fun q o e n => by rw [upd_ne n]; exact e
      generalize upd H5 x (.ins C dx [(("_uses" : Str), V.ref d), ("_vouchers", .ref pv), ("_needed", .int ne)]) = H7 at *
      have pvx : pv ≠ x := fun e => by rw [e, xi] at npv; cases npv
      -- the end, over the signers
      have fin : ∀ (sk : List Str) (ys : List Str) (ps : Addr) (H8 : Hp), keysB (sk.map V.str) 4 = true → sk = sgOf lv so → ys.Perm (onceW sk) → sortedS ys = true → H7 ps = none → Same H7 H8 → H8 ps = some (.lst (ys.map V.str)) →
          Q .non (upd H8 x (.ins C dx [(("_uses" : Str), V.ref d), ("_vouchers", .ref pv), ("_needed", .int ne), ("_signers", .ref ps)])) := by
        intro sk ys2 ps H8 kb es pms sos nps s8 eps
        have k8 : ∀ q o, Hi q = some o → q ≠ x → upd H8 x (.ins C dx [(("_uses" : Str), V.ref d), ("_vouchers", .ref pv), ("_needed", .int ne), ("_signers", .ref ps)]) q = some o := fun q o e n => by rw [upd_ne n]; exact s8 _ _ (k7 _ _ (s5 _ _ e) n)
        have psx : ps ≠ x := fun e => by rw [e, x7] at nps; cases nps
        have s08 := same_mut (o := .ins C dx [(("_uses" : Str), V.ref d), ("_vouchers", .ref pv), ("_needed", .int ne), ("_signers", .ref ps)]) (s07.trans s8) n0
        obtain ⟨g1, g2⟩ := go _ s08 k8
        have oV := keys_once lvb
        have oS := keys_once kb
        have evs : vs2 = srtW lv.ks := srt_eq sov (pmv.trans (once_perm oV.1))
        have ess : ys2 = srtW sk := srt_eq sos (pms.trans (once_perm oS.1))
        have ezs : us.map (·.z) = srtW (rows.map (·.z)) := uz.trans (srt_eq sy pm2)
        have ul : us.length = rows.length := by
          have z := congrArg List.length ezs
          rw [List.length_map, srtW_len, List.length_map] at z
          exact z
        refine q _ ⟨us, vs2, ne, ys2⟩ ⟨⟨dx, d, pv, ps, upd_same, g1, ?_, ?_, n0, nd0, npv0, s07.free nps⟩, g2⟩ ⟨ezs, fun r hr => (ui r hr).2, evs, rfl, ess.trans (by rw [es])⟩ ?_ s08
        · rw [upd_ne pvx]; exact s8 _ _ (k7 _ _ epv pvx)
        · rw [upd_ne psx]; exact eps
        · refine ⟨by show 1 ≤ us.length; rw [ul]; exact R.n1, by show us.length ≤ 3; rw [ul]; exact R.n3, ?_, ?_, ?_, evs ▸ ksOk_srt lvb, ess ▸ ksOk_srt kb, ne0, ne4⟩
          · show (us.map (·.z)).Nodup
            rw [ezs]; exact srtW_nodup.mpr R.nd
          · show sortedS (us.map (·.z)) = true
            rw [ezs]; exact srtW_sorted _
          · intro r hr
            obtain ⟨_, rq, rin, e1, e2, e3⟩ := ui r hr
            have rB := List.all_eq_true.mp R.rb rq rin
            unfold rowB at rB
            obtain ⟨b1, b2⟩ := Bool.and_eq_true_iff.mp rB
            obtain ⟨b3, b4⟩ := Bool.and_eq_true_iff.mp b2
            exact ⟨e3 ▸ ksOk_srt b3, e1 ▸ b1, e2 ▸ b4⟩
      rcases R.s_ with ⟨rfl, rfl⟩ | ⟨l, rfl, rfl, lk, lb⟩
      · refine ⟨_, rfl, rfl, _, rfl, iteT ⟨_, rfl, lv.a, lv.b, lv.ks, rfl, SqE.keep lvk.sq s07, nl0 lvb (by decide), fun ys2 ps H8 pms sos nps s8 eps => ⟨_, rfl, x, C, dx, _, rfl, s8 _ _ x7, J.cl, J.ns, three, ?_⟩⟩⟩
        rw [put_s]
        exact fin lv.ks ys2 ps H8 lvb rfl pms sos nps s8 eps
      · refine ⟨_, rfl, rfl, _, rfl, iteF ⟨_, rfl, l.a, l.b, l.ks, rfl, SqE.keep lk.sq s07, nl0 lb (by decide), fun ys2 ps H8 pms sos nps s8 eps => ⟨_, rfl, x, C, dx, _, rfl, s8 _ _ x7, J.cl, J.ns, three, ?_⟩⟩⟩
        rw [put_s]
        exact fin l.ks ys2 ps H8 lb rfl pms sos nps s8 eps
  · refine ⟨_, rfl, _, rfl, _, rfl, _, rfl, r, v, n, sg, f1, f2, f3, f4, rfl, fun H' Q s q => i1 H' Q (s0.trans s) q, fun H' Q s q => i2 H' Q (s0.trans s) q, i3.keep s0, i4.imp id fun z => ⟨z.1, fun H' Q s q => z.2 H' Q (s0.trans s) q⟩, fun H1 s1 => ?_⟩
    have s01 := s0.trans s1
    refine ⟨_, rfl, rfl, _, rfl, ?_⟩
    rw [ey, decide_eq_false ny]
    exact iteT ⟨_, rfl, x_read fun d nd => k d _ (s01.free nd) (same_new' s01 nd) upd_same⟩
end

end K07

namespace K07
open PySem PySem.Spec PyProof.Rows L2 Jg
local macro_rules | `(tactic| walk_at "rd1") => `(tactic| (first
  | refine ⟨_, rfl, ?_⟩
  | refine ⟨_, _, rfl, rfl, ?_⟩
  | refine ⟨_, _, rfl, ?_⟩
  | refine ⟨rfl, ?_⟩
  | (refine ⟨show (0 : Int) < _ by omega, ?_⟩)
  | (refine ⟨Or.inl ⟨by omega, by omega⟩, ?_⟩)
  | (refine ⟨Or.inr ⟨by omega, by omega⟩, ?_⟩)
  | (refine ⟨(⟨by decide, by decide, by decide⟩ : CPow _ _), ?_⟩)
  | refine Or.inl ⟨_, rfl, ?_⟩
  | refine Or.inr ⟨_, rfl, ?_⟩
  | fail "rd"))
local macro_rules | `(tactic| walk_at "rd") => `(tactic| repeat' walk_at "rd1")


/-! ### draws -/
theorem seq_upd {K : PySem.W.Frag} {H : Hp} {l p : Addr} {xs : List V} {o : HO} (h : SqL K H l xs) (n : l ≠ p) : SqL K (upd H p o) l xs := by
  rcases h with (h | ⟨z, h⟩) | h
  · exact .inl (.inl (by rw [upd_ne n]; exact h))
  · exact .inl (.inr ⟨z, by rw [upd_ne n]; exact h⟩)
  · exact .inr h
def spStream (K : PySem.W.Frag) : Sp := fun vs H Q _ => ∃ (a : Addr) (ns : List Int) (k : Nat), vs = [.ref a, .int k] ∧ SqL K H a (ns.map V.int) ∧ k ≤ 1000 ∧
  ∀ p x y, H p = none → 0 ≤ x → Q (.ref p) (upd H p (.lst [.int x, .int y]))
def spDraw : Sp := fun vs H Q _ => ∃ p a b n, vs = [.ref p, .int n] ∧ H p = some (.lst [.int a, .int b]) ∧ 0 ≤ a ∧ 0 < n ∧ n.natAbs < 2 ^ 300 ∧
  ∀ v a' b', 0 ≤ v → v < n → 0 ≤ a' → Q (.int v) (upd H p (.lst [.int a', .int b']))
/-- from a list, or a sign of a text -/
def spChoose (K : PySem.W.Frag) : Sp := fun vs H Q _ => ∃ p y a b, vs = [.ref p, y] ∧ H p = some (.lst [.int a, .int b]) ∧ 0 ≤ a ∧
  ((∃ l xs, y = .ref l ∧ SqL K H l xs ∧ l ≠ p ∧ 0 < xs.length ∧ xs.length < 1000 ∧ ∀ (i : Nat) (v : V) (a' b' : Int), xs[i]? = some v → 0 ≤ a' → Q v (upd H p (.lst [.int a', .int b']))) ∨
   (∃ z : Str, y = .str z ∧ 0 < z.length ∧ z.length < 1000 ∧ ∀ (c : Nat) (a' b' : Int), c ∈ z.cps.toList → 0 ≤ a' → Q (.str ⟨#[c]⟩) (upd H p (.lst [.int a', .int b']))))
theorem i1000 {n : Int} (h0 : 0 ≤ n) (h : n < 1000) : n.natAbs < 2 ^ 300 := by
  have : n.natAbs < 1024 := by omega
  exact Nat.lt_of_lt_of_le this (by decide +kernel)
theorem SameB.refl (p : Addr) (H : Hp) : SameB p H H := fun _ _ e _ => e
theorem SameB.trans {p : Addr} {H H1 H2 : Hp} (a : SameB p H H1) (b : SameB p H1 H2) : SameB p H H2 := fun q o e n => b q o (a q o e n) n
theorem SameB.of {p : Addr} {H H1 : Hp} (a : Same H H1) : SameB p H H1 := fun q o e _ => a q o e
theorem SameB.new {p l : Addr} {H H1 : Hp} {o : HO} (a : SameB p H H1) (h : H1 l = none) : SameB p H (upd H1 l o) := fun q u e n => by
  have z := a q u e n
  rw [upd_ne (ne_of_none z h)]
  exact z
theorem SameB.mut {p : Addr} {H H1 : Hp} {o : HO} (a : SameB p H H1) : SameB p H (upd H1 p o) := fun q u e n => by
  rw [upd_ne n]
  exact a q u e n
theorem SameB.out {p : Addr} {H H1 H2 : Hp} (a : Same H H1) (b : SameB p H1 H2) (n : H p = none) : Same H H2 := fun q o e => b q o (a q o e) (ne_of_none e n)
def StA (H : Hp) (p : Addr) : Prop := ∃ a b, H p = some (.lst [.int a, .int b]) ∧ 0 ≤ a
theorem StA.ne {H : Hp} {p l : Addr} (h : StA H p) (n : H l = none) : l ≠ p := fun z => by
  obtain ⟨a, b, e, _⟩ := h
  rw [z, e] at n
  cases n
theorem ne_dec {x y : Int} : decide (V.int x = V.int y) = decide (x = y) := by
  by_cases c : x = y
  · rw [c, decide_eq_true rfl, decide_eq_true rfl]
  · rw [decide_eq_false c, decide_eq_false fun z => c (V.int.inj z)]
theorem p30 : (10 : Int) ^ (30 : Int).toNat = 1000000000000000000000000000000 := by decide +kernel
theorem p20 : (10 : Int) ^ (20 : Int).toNat = 100000000000000000000 := by decide +kernel
theorem p9 : (10 : Int) ^ (9 : Int).toNat = 1000000000 := by decide +kernel
theorem SameB.free {p l : Addr} {H H' : Hp} (s : SameB p H H') (n : H' l = none) (np : l ≠ p) : H l = none := by
  cases e : H l with
  | none => rfl
  | some o =>
    have z := s l o e np
    rw [n] at z; cases z
/-! ### letters -/
def AZ (z : Str) : Prop := ∀ c ∈ z.cps.toList, 97 ≤ c ∧ c ≤ 122
theorem az_app {a b : Str} (h1 : AZ a) (h2 : AZ b) : AZ (a ++ b) := fun c h => by
  rw [Str.cps_append, Array.toList_append, List.mem_append] at h
  exact h.elim (h1 c) (h2 c)
theorem az_one {c : Nat} (h : 97 ≤ c ∧ c ≤ 122) : AZ ⟨#[c]⟩ := fun d hd => by
  have e : d = c := by simpa using hd
  rw [e]; exact h
def letters : Str := "abcdefghijklmnopqrstuvwxyz"
theorem letters_az : AZ letters := by
  have h : ∀ c ∈ letters.cps.toList, 97 ≤ c ∧ c ≤ 122 := by decide +kernel
  exact h
theorem letters_len : letters.length = 26 := by decide +kernel
/-- single signs, joined -/
def Ones (ys : List Str) : Prop := ∀ y ∈ ys, AZ y ∧ y.length = 1
theorem join_az : ∀ ys : List Str, Ones ys → AZ (Str.join Str.empty ys) ∧ (Str.join Str.empty ys).length = ys.length
  | [], _ => ⟨(fun c h => by cases h), rfl⟩
  | [x], h => ⟨(h x (by simp)).1, (h x (by simp)).2⟩
  | x :: y :: r, h => by
    obtain ⟨h1, h2⟩ := join_az (y :: r) fun z hz => h z (List.mem_cons_of_mem _ hz)
    have e : Str.join Str.empty (x :: y :: r) = x ++ Str.join Str.empty (y :: r) := by
      show x ++ Str.empty ++ Str.join Str.empty (y :: r) = _
      rw [Str.append_empty]
    rw [e]
    refine ⟨az_app (h x (by simp)).1 h1, ?_⟩
    rw [Str.length_append, h2, (h x (by simp)).2, List.length_cons, List.length_cons, List.length_cons]
    omega
theorem ones_sum : ∀ ys : List Str, Ones ys → (ys.map (·.length)).sum = ys.length
  | [], _ => rfl
  | x :: r, h => by
    rw [List.map_cons, List.sum_cons, ones_sum r fun z hz => h z (List.mem_cons_of_mem _ hz), (h x (by simp)).2, List.length_cons]
    omega
theorem az_sign : ∀ c : Nat, 97 ≤ c → c ≤ 122 → (Unicode.isAlpha c && (Unicode.isLower c && (!Unicode.isUpper c && !Unicode.isTitle c))) = true := by
  intro c h1 h2
  have h : ∀ d ∈ (List.range 26).map (97 + ·), (Unicode.isAlpha d && (Unicode.isLower d && (!Unicode.isUpper d && !Unicode.isTitle d))) = true := by decide +kernel
  exact h c (List.mem_map.mpr ⟨c - 97, List.mem_range.mpr (by omega), by show 97 + (c - 97) = c; omega⟩)
theorem az_all {z : Str} {p : Nat → Bool} (h : AZ z) (hp : ∀ c, 97 ≤ c → c ≤ 122 → p c = true) : z.cps.all p = true := by
  rw [← Array.all_toList]
  exact List.all_eq_true.mpr fun c hc => hp c (h c hc).1 (h c hc).2
theorem az_word {z : Str} (h : AZ z) (h1 : 1 ≤ z.length) (h8 : z.length ≤ 8) : wordB z = true := by
  have pos : 0 < z.cps.toList.length := by
    have e : z.length = z.cps.size := rfl
    rw [Array.length_toList]; omega
  have ha : PySem.Txt.isascii z = true := az_all h fun c _ _ => decide_eq_true (by omega)
  have hb : PySem.Txt.isalpha z = true := by
    unfold PySem.Txt.isalpha
    rw [az_all h fun c h1 h2 => (Bool.and_eq_true_iff.mp (az_sign c h1 h2)).1, Bool.and_true]
    exact decide_eq_true (by omega)
  have hc : PySem.Txt.islower z = true := by
    unfold PySem.Txt.islower
    have k1 : z.cps.any Unicode.isLower = true := by
      rw [← Array.any_toList]
      have m : z.cps.toList[0] ∈ z.cps.toList := List.getElem_mem pos
      exact List.any_eq_true.mpr ⟨_, m, (Bool.and_eq_true_iff.mp (Bool.and_eq_true_iff.mp (az_sign _ (h _ m).1 (h _ m).2)).2).1⟩
    have k2 : (z.cps.any fun c => Unicode.isUpper c || Unicode.isTitle c) = false := by
      rw [← Array.any_toList, List.any_eq_false]
      intro c hc
      have z4 := (Bool.and_eq_true_iff.mp (Bool.and_eq_true_iff.mp (az_sign _ (h _ hc).1 (h _ hc).2)).2).2
      obtain ⟨u1, u2⟩ := Bool.and_eq_true_iff.mp z4
      rw [Bool.not_eq_true'] at u1 u2
      rw [u1, u2]; simp
    rw [k1, k2]; rfl
  unfold wordB
  rw [decide_eq_true h8, ha, hb, hc]; rfl
/-- a word -/
def Wd (z : Str) : Prop := AZ z ∧ 1 ≤ z.length ∧ z.length ≤ 7
theorem Wd.ok {z : Str} (h : Wd z) : z.length ≤ sizeLine ∧ wordB z = true := ⟨by rw [sizeLine_eq]; have := h.2.2; omega, az_word h.1 h.2.1 (Nat.le_succ_of_le h.2.2)⟩
/-- the letter at a step -/
def stepC (f st : Int) (i : Nat) : Nat := 97 + ((f + st * (0 + (i : Int))) % 26).toNat
theorem stepC_inj {f st : Int} (h : st = 1 ∨ st = 3 ∨ st = 5 ∨ st = 7 ∨ st = 9 ∨ st = 11 ∨ st = 15 ∨ st = 17 ∨ st = 19 ∨ st = 21 ∨ st = 23 ∨ st = 25) {i j : Nat} (hi : i < 26) (hj : j < 26) (e : stepC f st i = stepC f st j) : i = j := by
  unfold stepC at e
  rcases h with rfl | rfl | rfl | rfl | rfl | rfl | rfl | rfl | rfl | rfl | rfl | rfl <;> omega
theorem mid_inj {a b : Str} {c d : Nat} (e : a ++ ⟨#[c]⟩ ++ b = a ++ ⟨#[d]⟩ ++ b) : c = d := by
  have z := congrArg (fun s : Str => s.cps.toList) e
  simp only [Str.cps_append, Array.toList_append] at z
  have z2 := List.append_cancel_right z
  have z3 := List.append_cancel_left z2
  simpa using z3
theorem nodup_steps {f st : Int} {hd tl : Str} (h : st = 1 ∨ st = 3 ∨ st = 5 ∨ st = 7 ∨ st = 9 ∨ st = 11 ∨ st = 15 ∨ st = 17 ∨ st = 19 ∨ st = 21 ∨ st = 23 ∨ st = 25) {n : Nat} (hn : n ≤ 26) : ((List.range n).map fun i => hd ++ (⟨#[stepC f st i]⟩ : Str) ++ tl).Nodup := by
  unfold List.Nodup
  rw [List.pairwise_map]
  refine List.Pairwise.imp_of_mem (fun {a b} ha hb lt e => ?_) List.pairwise_lt_range
  have z := stepC_inj h (by have := List.mem_range.mp ha; omega) (by have := List.mem_range.mp hb; omega) (mid_inj e)
  omega
def spWords : Sp := fun vs H Q _ => ∃ p n, vs = [.ref p, .int n] ∧ 0 ≤ n ∧ n ≤ 26 ∧ StA H p ∧ ∀ (l : Addr) (ws : List Str) (H' : Hp), H l = none → l ≠ p → ws.length = n.toNat → (∀ z ∈ ws, Wd z) → ws.Nodup → H' l = some (.lst (ws.map V.str)) → StA H' p → SameB p H H' → Q (.ref l) H'
section
variable {P : Program} {w : World} {K : PySem.W.Frag} {mg : Str → Option Value} {base : Heap}
abbrev s_law_stream : Stmt := top 21
theorem sc_law_stream : FnScope ["script", "k", "cell", "size", "mixed"] ["script", "k"] (defScope s_law_stream) := ⟨rfl, rfl, rfl, by decide +kernel, rfl, by decide +kernel, by decide +kernel⟩
theorem ok_stream (D : DefK K mg "_law_stream" s_law_stream) (T : Txt K mg) : Cal P w K mg base CX0 1 "_law_stream" (spStream K) := by
  refine D.cal sc_law_stream (fun _ _ _ _ _ _ us hl => match us, hl with | [_, _], _ => rfl) (fun vs H Q E h => ?_) fun f cdv A outer s H vs Q E hr h => ?_
  · obtain ⟨a, ns, k, rfl, _⟩ := h; rfl
  · obtain ⟨a, ns, k, rfl, hS, hk, q⟩ := h
    refine ⟨_, (pss_cons (ps_set (i := 2) sc_law_stream.nd rfl (Or.inl rfl) pe_int)
      (pss_cons (ps_if (pt_cmpR op_lt (pv 1) (pe_callB call_len_seq (by rfl) T.b_len (by decide +kernel) (pa_cons (pv 0) pa_nil)) (nomark _)) (pss_one (ps_set (i := 2) sc_law_stream.nd rfl (Or.inl rfl) (pe_ix (r := rIxL K) ix_list (pv 0) (pv 1) (fun _ _ => rfl)))) pss_nil)
      (pss_cons (ps_set (i := 3) sc_law_stream.nd rfl (Or.inl rfl) (pe_callB (call_max2 rfl) (by rfl) T.b_max (by decide +kernel) (pa_cons (pv 2) (pa_cons (pe_op op_sub (pe_un un_neg pe_int) (pv 2)) pa_nil))))
      (pss_cons (ps_set (i := 4) sc_law_stream.nd rfl (Or.inl rfl) (pe_op op_mod (pe_op op_mul (pe_op op_add (pe_op op_add (pe_op op_add (pe_op op_mod (pv 3) pe_int) (pe_op op_mul (pe_op op_mul pe_int (pv 1)) (pv 1))) (pe_op op_mul pe_int (pv 1))) pe_int) pe_int) pe_int))
      (pss_one (ps_ret (pe_lst (pa_cons (pe_op op_mul (pv 3) (pe_callTy call_int1 (by rfl) T.b_int (by decide +kernel) (pa_cons (pe_cmpR op_ge (pv 3) (pe_op op_pow pe_int pe_int) (nomark _)) pa_nil))) (pa_cons (pv 4) pa_nil))))))))), ?_⟩
    have kb : -(2 ^ 64 : Int) < (k : Int) ∧ (k : Int) < 2 ^ 64 := by omega
    refine ⟨_, rfl, _, rfl, a, _, rfl, .inl hS, _, _, rfl, rfl, _, rfl, ?_⟩
    rw [List.length_map]
    by_cases c : (k : Int) < (ns.length : Int)
    · rw [decide_eq_true c]
      have at_ : (ns.map V.int)[k]? = some (V.int (ns[k]'(by omega))) := by rw [List.getElem?_map, List.getElem?_eq_getElem (by omega)]; rfl
      refine iteT ⟨_, rfl, _, rfl, a, _, _, _, rfl, rfl, hS, atI_nat at_, ?_⟩
      walk_at "rd"
      exact ⟨by show 2 ≤ sizeLine; decide, fun p hp => q p _ _ hp (Int.mul_nonneg (by split <;> omega) (by split <;> omega))⟩
    · rw [decide_eq_false c]
      refine iteF ?_
      walk_at "rd"
      exact ⟨by show 2 ≤ sizeLine; decide, fun p hp => q p _ _ hp (Int.mul_nonneg (by split <;> omega) (by split <;> omega))⟩
abbrev s_law_draw : Stmt := top 22
theorem sc_law_draw : FnScope ["stream", "count", "result"] ["stream", "count"] (defScope s_law_draw) := ⟨rfl, rfl, rfl, by decide +kernel, rfl, by decide +kernel, by decide +kernel⟩
theorem ok_draw (D : DefK K mg "_law_draw" s_law_draw) : Cal P w K mg base CX0 1 "_law_draw" spDraw := by
  refine D.cal sc_law_draw (fun _ _ _ _ _ _ us hl => match us, hl with | [_, _], _ => rfl) (fun vs H Q E h => ?_) fun f cdv A outer s H vs Q E hr h => ?_
  · obtain ⟨p, a, b, n, rfl, _⟩ := h; rfl
  · obtain ⟨p, a, b, n, rfl, hp, ha, hn, hb, q⟩ := h
    have at0 : ∀ x y : Int, atI [V.int x, V.int y] 0 = some (V.int x) := fun _ _ => atI_nat (j := 0) rfl
    have at1 : ∀ x y : Int, atI [V.int x, V.int y] 1 = some (V.int y) := fun _ _ => atI_nat (j := 1) rfl
    have hw : CDivW a n := wide_div hn hb (by decide) (by decide)
    refine ⟨_, (pss_cons (ps_if (pt_cmpR op_gt (pe_ix (r := rIxL K) ix_list (pv 0) pe_int (fun _ _ => rfl)) pe_int (nomark _)) (pss_cons (ps_set (i := 2) sc_law_draw.nd rfl (Or.inl rfl) (pe_op op_mod (pe_ix (r := rIxL K) ix_list (pv 0) pe_int (fun _ _ => rfl)) (pv 1)))
      (pss_cons (ps_asg (pe_op op_fdivW (pe_ix (r := rIxL K) ix_list (pv 0) pe_int (fun _ _ => rfl)) (pv 1)) (pg_sub (pv 0) pe_int set_list))
      (pss_one (ps_ret (pv 2))))) pss_nil)
      (pss_cons (ps_asg (pe_op op_mod (pe_op op_add (pe_op op_mul (pe_ix (r := rIxL K) ix_list (pv 0) pe_int (fun _ _ => rfl)) pe_int) pe_int) pe_int) (pg_sub (pv 0) pe_int set_list))
      (pss_one (ps_ret (pe_op op_mod (pe_op op_fdiv (pe_op op_mod (pe_op op_mul (pe_ix (r := rIxL K) ix_list (pv 0) pe_int (fun _ _ => rfl)) (pe_ix (r := rIxL K) ix_list (pv 0) pe_int (fun _ _ => rfl))) pe_int) pe_int) (pv 1)))))), ?_⟩
    refine ⟨_, rfl, p, _, _, _, rfl, rfl, SqL.of hp, at0 _ _, _, _, rfl, rfl, _, rfl, ?_⟩
    by_cases c : 0 < a
    · rw [decide_eq_true c]
      refine iteT ⟨_, rfl, p, _, _, _, rfl, rfl, SqL.of hp, at0 _ _, _, rfl, _, _, rfl, rfl, hn, ?_⟩
      refine ⟨_, rfl, p, _, _, _, rfl, rfl, SqL.of hp, at0 _ _, _, rfl, _, _, rfl, rfl, hw, ?_⟩
      refine ⟨_, rfl, p, _, _, 0, rfl, rfl, hp, rfl, ?_⟩
      refine ⟨_, rfl, q _ _ _ (Int.emod_nonneg _ (by omega)) (Int.emod_lt_of_pos _ hn) (Int.ediv_nonneg ha (by omega))⟩
    · rw [decide_eq_false c]
      refine iteF ⟨_, rfl, p, _, _, _, rfl, rfl, SqL.of hp, at1 _ _, ?_⟩
      walk_at "rd"
      refine ⟨p, _, _, 1, rfl, rfl, hp, rfl, ?_⟩
      refine ⟨_, rfl, p, _, _, _, rfl, rfl, SqL.of upd_same, at1 _ _, _, rfl, p, _, _, _, rfl, rfl, SqL.of upd_same, at1 _ _, _, _, rfl, rfl, ?_⟩
      have m1 := Int.emod_nonneg (b * 39373 + 7) (show (2147483647 : Int) ≠ 0 by decide)
      have m2 := Int.emod_lt_of_pos (b * 39373 + 7) (show (0 : Int) < 2147483647 by decide)
      refine ⟨.inl ⟨by omega, by omega⟩, _, _, rfl, rfl, show (0 : Int) < _ by decide, _, _, rfl, rfl, ⟨by decide, by decide⟩, _, rfl, _, _, rfl, rfl, hn, ?_⟩
      exact q _ _ _ (Int.emod_nonneg _ (by omega)) (Int.emod_lt_of_pos _ hn) ha
abbrev s_law_choose : Stmt := top 23
theorem sc_law_choose : FnScope ["stream", "items"] ["stream", "items"] (defScope s_law_choose) := ⟨rfl, rfl, rfl, by decide +kernel, rfl, by decide +kernel, by decide +kernel⟩
theorem ok_choose (D : DefK K mg "_law_choose" s_law_choose) (T : Txt K mg) (G_law_draw : Cal P w K mg base CX0 1 "_law_draw" spDraw) : Cal P w K mg base CX0 2 "_law_choose" (spChoose K) := by
  refine D.cal sc_law_choose (fun _ _ _ _ _ _ us hl => match us, hl with | [_, _], _ => rfl) (fun vs H Q E h => ?_) fun f cdv A outer s H vs Q E hr h => ?_
  · obtain ⟨p, l, a, b, rfl, _⟩ := h; rfl
  · obtain ⟨p, y, a, b, rfl, hp, ha, h⟩ := h
    refine ⟨_, (pss_one (ps_ret (pe_ix (r := rIx K) ix_seq (pv 1) (pe_c G_law_draw hr (by decide) rfl (pa_cons (pv 0) (pa_cons (pe_callB call_len (by rfl) T.b_len (by decide +kernel) (pa_cons (pv 1) pa_nil)) pa_nil))) (fun _ _ => rfl)))), ?_⟩
    rcases h with ⟨l, xs, rfl, hl, n, h0, h1, q⟩ | ⟨z, rfl, h0, h1, q⟩
    · refine ⟨_, rfl, _, rfl, _, rfl, .ref l, xs.length, rfl, .inl ⟨xs, hl, rfl⟩, p, a, b, _, rfl, hp, ha, by omega, i1000 (by omega) (by omega), fun v a' b' v0 v1 a0 => ?_⟩
      have hi : v.toNat < xs.length := by omega
      have ev : xs[v.toNat]? = some (xs[v.toNat]'hi) := List.getElem?_eq_getElem hi
      have ev2 : v = ((v.toNat : Nat) : Int) := by omega
      exact .inl ⟨l, xs, v, _, rfl, rfl, seq_upd hl n, at_of ev2 ev, q v.toNat _ a' b' ev a0⟩
    · have hz : z.length ≤ sizeLine := by rw [sizeLine_eq]; omega
      refine ⟨_, rfl, _, rfl, _, rfl, .str z, z.length, rfl, ⟨hz, rfl⟩, p, a, b, _, rfl, hp, ha, by omega, i1000 (by omega) (by omega), fun v a' b' v0 v1 a0 => ?_⟩
      obtain ⟨j, rfl⟩ : ∃ j : Nat, v = (j : Int) := ⟨v.toNat, by omega⟩
      have hi : j < z.cps.toList.length := by
        have e : z.length = z.cps.size := rfl
        rw [Array.length_toList]; omega
      have ev : z.cps.toList[j]? = some (z.cps.toList[j]'hi) := List.getElem?_eq_getElem hi
      exact .inr (.inr ⟨z, _, _, rfl, rfl, hz, atI_nat ev, q _ a' b' (List.getElem_mem hi) a0⟩)
abbrev s_law_words : Stmt := top 24
theorem sc_law_words : FnScope ["stream", "count", "letters", "head", "tail", "first", "step", "at", "turn"] ["stream", "count"] (defScope s_law_words) := ⟨rfl, rfl, rfl, by decide +kernel, rfl, by decide +kernel, by decide +kernel⟩
theorem ok_words (D : DefK K mg "_law_words" s_law_words) (T : Txt K mg) (G_law_draw : Cal P w K mg base CX0 1 "_law_draw" spDraw) (G_law_choose : Cal P w K mg base CX0 2 "_law_choose" (spChoose K)) : Cal P w K mg base CX0 3 "_law_words" spWords := by
  refine D.cal sc_law_words (fun _ _ _ _ _ _ us hl => match us, hl with | [_, _], _ => rfl) (fun vs H Q E h => ?_) fun f cdv A outer s H vs Q E hr h => ?_
  · obtain ⟨p, n, rfl, _⟩ := h; rfl
  · obtain ⟨p, n, rfl, n0, n9, ⟨a, b, hp, ha⟩, k⟩ := h
    refine ⟨_, (pss_cons (ps_set (i := 2) sc_law_words.nd rfl (Or.inr rfl) pe_str)
      (pss_cons (ps_asg (pe_tup (pa_cons (pe_c G_law_draw hr (by decide) rfl (pa_cons (pv 0) (pa_cons pe_int pa_nil))) (pa_cons (pe_c G_law_choose hr (by decide) rfl (pa_cons (pv 0) (pa_cons (pe_lst (pa_cons pe_int (pa_cons pe_int (pa_cons pe_int (pa_cons pe_int (pa_cons pe_int (pa_cons pe_int (pa_cons pe_int (pa_cons pe_int (pa_cons pe_int (pa_cons pe_int (pa_cons pe_int (pa_cons pe_int pa_nil))))))))))))) pa_nil))) pa_nil))) (pg_tup rfl (pgs_cons (pg_name (i := 5) sc_law_words.nd rfl (Or.inr rfl)) (pgs_cons (pg_name (i := 6) sc_law_words.nd rfl (Or.inr rfl)) pgs_nil))))
      (pss_cons (ps_set (i := 3) sc_law_words.nd rfl (Or.inr rfl) (pe_join pe_str (pe_lc (own := [("turn", 8)]) (g := gName 8) (by rfl) sc_law_words.nd (pi_range1 (by rfl) T.b_range (pa_cons (pe_c G_law_draw hr (by decide) rfl (pa_cons (pv 0) (pa_cons pe_int pa_nil))) pa_nil)) (blkOk_by (own := [("turn", 8)]) (N := ["stream", "count", "letters", "head", "tail", "first", "step", "at", "turn"]) (sc := defScope s_law_words) (by decide +kernel)) (fun _ _ _ _ _ => pg_name (i := 8) sc_law_words.nd rfl (Or.inl rfl)) (fun _ _ _ _ _ => pts_nil) (fun _ _ _ _ _ => (pe_c G_law_choose hr (by decide) rfl (pa_cons (pv 0) (pa_cons (pv 2) pa_nil)))))))
      (pss_cons (ps_set (i := 4) sc_law_words.nd rfl (Or.inr rfl) (pe_join pe_str (pe_lc (own := [("turn", 8)]) (g := gName 8) (by rfl) sc_law_words.nd (pi_range1 (by rfl) T.b_range (pa_cons (pe_c G_law_draw hr (by decide) rfl (pa_cons (pv 0) (pa_cons pe_int pa_nil))) pa_nil)) (blkOk_by (own := [("turn", 8)]) (N := ["stream", "count", "letters", "head", "tail", "first", "step", "at", "turn"]) (sc := defScope s_law_words) (by decide +kernel)) (fun _ _ _ _ _ => pg_name (i := 8) sc_law_words.nd rfl (Or.inl rfl)) (fun _ _ _ _ _ => pts_nil) (fun _ _ _ _ _ => (pe_c G_law_choose hr (by decide) rfl (pa_cons (pv 0) (pa_cons (pv 2) pa_nil)))))))
      (pss_one (ps_ret (pe_lc (own := [("at", 7)]) (g := gName 7) (by rfl) sc_law_words.nd (pi_range1 (by rfl) T.b_range (pa_cons (pv 1) pa_nil)) (blkOk_by (own := [("at", 7)]) (N := ["stream", "count", "letters", "head", "tail", "first", "step", "at", "turn"]) (sc := defScope s_law_words) (by decide +kernel)) (fun _ _ _ _ _ => pg_name (i := 7) sc_law_words.nd rfl (Or.inl rfl)) (fun _ _ _ _ _ => pts_nil) (fun _ _ _ _ _ => (pe_op op_add_str (pe_op op_add_str (pv 3) (pe_ix (r := rIxS) ix_str (pv 2) (pe_op op_mod (pe_op op_add (pv 5) (pe_op op_mul (pv 6) (pv 7))) pe_int) (fun _ _ => rfl))) (pv 4)))))))))), ?_⟩
    refine ⟨_, rfl, p, a, b, 26, rfl, hp, ha, by decide, by decide +kernel, fun f1 a1 b1 f0 f26 ha1 => ?_⟩
    have s1 := SameB.mut (o := .lst [.int a1, .int b1]) (SameB.refl p H)
    refine ⟨_, rfl, by show 12 ≤ sizeLine; decide, fun l nl => ?_⟩
    have st1 : StA (upd H p (.lst [.int a1, .int b1])) p := ⟨a1, b1, upd_same, ha1⟩
    have lp := st1.ne nl
    refine ⟨p, .ref l, a1, b1, rfl, by rw [upd_ne lp.symm, upd_same], ha1, .inl ⟨l, _, rfl, SqL.of upd_same, lp, by show 0 < 12; decide, by show 12 < 1000; decide, fun j v a2 b2 hv ha2 => ?_⟩⟩
    have hs : ∃ n, v = V.int n ∧ (0 < n ∧ n < 26) ∧ (n = 1 ∨ n = 3 ∨ n = 5 ∨ n = 7 ∨ n = 9 ∨ n = 11 ∨ n = 15 ∨ n = 17 ∨ n = 19 ∨ n = 21 ∨ n = 23 ∨ n = 25) := by
      match j, hv with
      | 0, hv => cases hv; exact ⟨_, rfl, ⟨by decide, by decide⟩, by decide⟩
      | 1, hv => cases hv; exact ⟨_, rfl, ⟨by decide, by decide⟩, by decide⟩
      | 2, hv => cases hv; exact ⟨_, rfl, ⟨by decide, by decide⟩, by decide⟩
      | 3, hv => cases hv; exact ⟨_, rfl, ⟨by decide, by decide⟩, by decide⟩
      | 4, hv => cases hv; exact ⟨_, rfl, ⟨by decide, by decide⟩, by decide⟩
      | 5, hv => cases hv; exact ⟨_, rfl, ⟨by decide, by decide⟩, by decide⟩
      | 6, hv => cases hv; exact ⟨_, rfl, ⟨by decide, by decide⟩, by decide⟩
      | 7, hv => cases hv; exact ⟨_, rfl, ⟨by decide, by decide⟩, by decide⟩
      | 8, hv => cases hv; exact ⟨_, rfl, ⟨by decide, by decide⟩, by decide⟩
      | 9, hv => cases hv; exact ⟨_, rfl, ⟨by decide, by decide⟩, by decide⟩
      | 10, hv => cases hv; exact ⟨_, rfl, ⟨by decide, by decide⟩, by decide⟩
      | 11, hv => cases hv; exact ⟨_, rfl, ⟨by decide, by decide⟩, by decide⟩
      | j + 12, hv => cases hv
    obtain ⟨st, rfl, ⟨st0, st26⟩, odd⟩ := hs
    have s2 := (s1.new (o := .lst [.int 1, .int 3, .int 5, .int 7, .int 9, .int 11, .int 15, .int 17, .int 19, .int 21, .int 23, .int 25]) nl).mut (o := .lst [.int a2, .int b2])
    refine ⟨by show 2 ≤ sizeLine; decide, fun tp ntp => ?_⟩
    have s3 := s2.new (o := .tup [.int f1, .int st]) ntp
    have tpp : tp ≠ p := fun z => by rw [z, upd_same] at ntp; cases ntp
    refine ⟨tp, _, rfl, SqT.of upd_same, rfl, _, _, rfl, _, _, rfl, rfl, ?_⟩
    have hp3 : (upd (upd (upd (upd H p (.lst [.int a1, .int b1])) l (.lst [.int 1, .int 3, .int 5, .int 7, .int 9, .int 11, .int 15, .int 17, .int 19, .int 21, .int 23, .int 25])) p (.lst [.int a2, .int b2])) tp (.tup [.int f1, .int st])) p = some (.lst [.int a2, .int b2]) := by rw [upd_ne tpp.symm, upd_same]
    revert s3 hp3
    generalize upd (upd (upd (upd H p (.lst [.int a1, .int b1])) l (.lst [.int 1, .int 3, .int 5, .int 7, .int 9, .int 11, .int 15, .int 17, .int 19, .int 21, .int 23, .int 25])) p (.lst [.int a2, .int b2])) tp (.tup [.int f1, .int st]) = H3
    intro s3 hp3
    -- head
    refine ⟨⟨_, rfl⟩, _, rfl, p, a2, b2, 4, rfl, hp3, ha2, by decide, by decide +kernel, fun n1 a3 b3 n10 n14 ha3 => ?_⟩
    refine ⟨n1, rfl, by omega, by omega, fun D nD => ?_⟩
    have st3 : StA (upd H3 p (.lst [.int a3, .int b3])) p := ⟨a3, b3, upd_same, ha3⟩
    have Dp := st3.ne nD
    refine lc_range (lo := 0) (n := n1.toNat) (fun i H' => ∃ ys : List Str, H' D = some (.lst (ys.map V.str)) ∧ Ones ys ∧ ys.length = i ∧ StA H' p ∧ SameB p H H') ⟨[], upd_same, (fun z hz => by cases hz), rfl, ⟨a3, b3, by rw [upd_ne Dp.symm, upd_same], ha3⟩, (s3.mut).new nD⟩ (fun i H4 hi ⟨ys, hD, ho, hl, ⟨a4, b4, hp4, ha4⟩, s4⟩ => ?_) (fun H4 ⟨ys, hD, ho, hl, ⟨a4, b4, hp4, ha4⟩, s4⟩ => ?_)
    · refine ⟨rfl, ?_⟩
      refine yes_if ?_
      refine ⟨_, rfl, _, rfl, p, .str letters, a4, b4, rfl, hp4, ha4, .inr ⟨letters, rfl, by rw [letters_len]; decide, by rw [letters_len]; decide, fun c a5 b5 hc ha5 => ?_⟩⟩
      refine ⟨ys.map V.str, by rw [upd_ne Dp]; exact hD, ?_, ys ++ [⟨#[c]⟩], ?_, ?_, ?_, ⟨a5, b5, by rw [upd_ne Dp.symm, upd_same], ha5⟩, ?_⟩
      · rw [List.length_map, sizeLine_eq]; omega
      · rw [upd_same, List.map_append]; rfl
      · intro z hz
        rcases List.mem_append.mp hz with hz | hz
        · exact ho z hz
        · have e : z = ⟨#[c]⟩ := by simpa using hz
          rw [e]
          exact ⟨az_one (letters_az c hc), rfl⟩
      · rw [List.length_append, hl]; rfl
      · intro q o e n
        have nqD : q ≠ D := fun z => by
          have z1 := (s3.mut (o := .lst [.int a3, .int b3])) q o e n
          rw [z, nD] at z1; cases z1
        rw [upd_ne nqD, upd_ne n]
        exact s4 q o e n
    obtain ⟨hz1, hl1⟩ := join_az ys ho
    refine ⟨_, D, ys, rfl, rfl, .inl (SqL.of hD), by rw [ones_sum ys ho]; show ys.length + ys.length * 0 ≤ _; omega, ?_⟩
    have e0 : Str.ofString "" = Str.empty := by decide +kernel
    have ej : PySem.Txt.join (Str.ofString "") ys = Str.join Str.empty ys := by rw [e0]; exact StrLaws.glued_eq_join _ _
    have hz1' : AZ (PySem.Txt.join (Str.ofString "") ys) := ej ▸ hz1
    have hl1' : (PySem.Txt.join (Str.ofString "") ys).length ≤ 3 := by rw [ej, hl1]; omega
    clear hz1 hl1 ej
    revert hz1' hl1'
    show AZ (PySem.Txt.join (Str.ofString "") ys) → (PySem.Txt.join (Str.ofString "") ys).length ≤ 3 → _
    generalize PySem.Txt.join (Str.ofString "") ys = hd
    intro hz1 hl1
    -- tail
    have sD : SameB p H H4 := s4
    clear st3 nD
    refine ⟨⟨_, rfl⟩, _, rfl, p, a4, b4, 4, rfl, hp4, ha4, by decide, by decide +kernel, fun n2 a6 b6 n20 n24 ha6 => ?_⟩
    refine ⟨n2, rfl, by omega, by omega, fun D2 nD2 => ?_⟩
    have st6 : StA (upd H4 p (.lst [.int a6, .int b6])) p := ⟨a6, b6, upd_same, ha6⟩
    have Dp2 := st6.ne nD2
    refine lc_range (lo := 0) (n := n2.toNat) (fun i H' => ∃ ys : List Str, H' D2 = some (.lst (ys.map V.str)) ∧ Ones ys ∧ ys.length = i ∧ StA H' p ∧ SameB p H H') ⟨[], upd_same, (fun z hz => by cases hz), rfl, ⟨a6, b6, by rw [upd_ne Dp2.symm, upd_same], ha6⟩, (sD.mut).new nD2⟩ (fun i H5 hi ⟨ys, hD, ho, hl, ⟨a7, b7, hp7, ha7⟩, s5⟩ => ?_) (fun H5 ⟨ys, hD, ho, hl, ⟨a7, b7, hp7, ha7⟩, s5⟩ => ?_)
    · refine ⟨rfl, ?_⟩
      refine yes_if ?_
      refine ⟨_, rfl, _, rfl, p, .str letters, a7, b7, rfl, hp7, ha7, .inr ⟨letters, rfl, by rw [letters_len]; decide, by rw [letters_len]; decide, fun c a5 b5 hc ha5 => ?_⟩⟩
      refine ⟨ys.map V.str, by rw [upd_ne Dp2]; exact hD, ?_, ys ++ [⟨#[c]⟩], ?_, ?_, ?_, ⟨a5, b5, by rw [upd_ne Dp2.symm, upd_same], ha5⟩, ?_⟩
      · rw [List.length_map, sizeLine_eq]; omega
      · rw [upd_same, List.map_append]; rfl
      · intro z hz
        rcases List.mem_append.mp hz with hz | hz
        · exact ho z hz
        · have e : z = ⟨#[c]⟩ := by simpa using hz
          rw [e]
          exact ⟨az_one (letters_az c hc), rfl⟩
      · rw [List.length_append, hl]; rfl
      · intro q o e n
        have nqD : q ≠ D2 := fun z => by
          have z1 := (sD.mut (o := .lst [.int a6, .int b6])) q o e n
          rw [z, nD2] at z1; cases z1
        rw [upd_ne nqD, upd_ne n]
        exact s5 q o e n
    obtain ⟨hz2, hl2⟩ := join_az ys ho
    refine ⟨_, D2, ys, rfl, rfl, .inl (SqL.of hD), by rw [ones_sum ys ho]; show ys.length + ys.length * 0 ≤ _; omega, ?_⟩
    have e0 : Str.ofString "" = Str.empty := by decide +kernel
    have ej : PySem.Txt.join (Str.ofString "") ys = Str.join Str.empty ys := by rw [e0]; exact StrLaws.glued_eq_join _ _
    have hz2' : AZ (PySem.Txt.join (Str.ofString "") ys) := ej ▸ hz2
    have hl2' : (PySem.Txt.join (Str.ofString "") ys).length ≤ 3 := by rw [ej, hl2]; omega
    clear hz2 hl2 ej
    revert hz2' hl2'
    show AZ (PySem.Txt.join (Str.ofString "") ys) → (PySem.Txt.join (Str.ofString "") ys).length ≤ 3 → _
    generalize PySem.Txt.join (Str.ofString "") ys = tl
    intro hz2 hl2
    -- the words
    refine ⟨_, rfl, n, rfl, by omega, by omega, fun l3 nl3 => ?_⟩
    have stE : StA H5 p := ⟨a7, b7, hp7, ha7⟩
    have lp3 := stE.ne nl3
    have nlH : H l3 = none := by
      cases e : H l3 with
      | none => rfl
      | some o =>
        have z := s5 l3 o e lp3
        rw [nl3] at z; cases z
    refine lc_range (lo := 0) (n := n.toNat) (fun i H' => ∃ ws : List Str, H' = upd H5 l3 (.lst (ws.map V.str)) ∧ (∀ z ∈ ws, Wd z) ∧ ws.length = i ∧ ws = (List.range i).map fun i => hd ++ (⟨#[stepC f1 st i]⟩ : Str) ++ tl) ⟨[], rfl, (fun z hz => by cases hz), rfl, rfl⟩ (fun i H6 hi ⟨ws, e6, hw, hl, ew⟩ => ?_) (fun H6 ⟨ws, e6, hw, hl, ew⟩ => ?_)
    · subst e6
      refine ⟨rfl, ?_⟩
      refine yes_if ?_
      have m0 := Int.emod_nonneg (f1 + st * (0 + (i : Int))) (show (26 : Int) ≠ 0 by decide)
      have m1 := Int.emod_lt_of_pos (f1 + st * (0 + (i : Int))) (show (0 : Int) < 26 by decide)
      obtain ⟨j, ej⟩ : ∃ j : Nat, (f1 + st * (0 + (i : Int))) % 26 = (j : Int) := ⟨((f1 + st * (0 + (i : Int))) % 26).toNat, by omega⟩
      have hj : j < letters.cps.toList.length := by
        have e : letters.cps.toList.length = 26 := by decide +kernel
        omega
      have ev : letters.cps.toList[j]? = some (letters.cps.toList[j]'hj) := List.getElem?_eq_getElem hj
      have hc := letters_az _ (List.getElem_mem hj)
      refine ⟨_, rfl, _, rfl, _, rfl, _, rfl, _, rfl, st, _, rfl, rfl, .inl ⟨by omega, by omega⟩, f1, _, rfl, rfl, _, _, rfl, rfl, (by show (0 : Int) < 26; decide), ?_⟩
      refine ⟨letters, _, _, rfl, rfl, by rw [letters_len, sizeLine_eq]; decide, by rw [ej]; exact atI_nat ev, ?_⟩
      have l1 : (⟨#[letters.cps.toList[j]'hj]⟩ : Str).length = 1 := rfl
      refine ⟨hd, _, rfl, rfl, by rw [l1, sizeLine_eq]; omega, _, rfl, _, tl, rfl, rfl, by rw [Str.length_append, l1, sizeLine_eq]; omega, ?_⟩
      refine ⟨ws.map V.str, upd_same, by rw [List.length_map, sizeLine_eq]; omega, ws ++ [hd ++ ⟨#[letters.cps.toList[j]'hj]⟩ ++ tl], ?_, ?_, ?_, ?_⟩
      · rw [upd_upd, List.map_append]; rfl
      · intro z hz
        rcases List.mem_append.mp hz with hz | hz
        · exact hw z hz
        · have e : z = hd ++ ⟨#[letters.cps.toList[j]'hj]⟩ ++ tl := by simpa using hz
          rw [e]
          refine ⟨az_app (az_app hz1 (az_one hc)) hz2, ?_, ?_⟩
          · rw [Str.length_append, Str.length_append, l1]; omega
          · rw [Str.length_append, Str.length_append, l1]; omega
      · rw [List.length_append, hl]; rfl
      · have lj : letters.cps.toList[j]'hj = 97 + j := by
          have all : ∀ i, (hi : i < letters.cps.toList.length) → letters.cps.toList[i]'hi = 97 + i := by decide +kernel
          exact all j hj
        have sj : stepC f1 st i = 97 + j := by unfold stepC; rw [ej]; rfl
        rw [List.range_succ, List.map_append, ← ew, lj]
        show _ = ws ++ [hd ++ ⟨#[stepC f1 st i]⟩ ++ tl]
        rw [sj]
    · subst e6
      exact k l3 ws _ nlH lp3 hl hw (ew ▸ nodup_steps odd (by omega)) upd_same ⟨a7, b7, by rw [upd_ne lp3.symm]; exact hp7, ha7⟩ (s5.new nl3)
end

end K07

namespace K07
open PySem PySem.Spec PyProof.Rows L2 Jg
local macro_rules | `(tactic| walk_at "rd1") => `(tactic| (first
  | refine ⟨_, rfl, ?_⟩
  | refine ⟨_, _, rfl, rfl, ?_⟩
  | refine ⟨_, _, rfl, ?_⟩
  | refine ⟨rfl, ?_⟩
  | (refine ⟨show (0 : Int) < _ by omega, ?_⟩)
  | (refine ⟨Or.inl ⟨by omega, by omega⟩, ?_⟩)
  | (refine ⟨Or.inr ⟨by omega, by omega⟩, ?_⟩)
  | (refine ⟨(⟨by decide, by decide, by decide⟩ : CPow _ _), ?_⟩)
  | refine Or.inl ⟨_, rfl, ?_⟩
  | refine Or.inr ⟨_, rfl, ?_⟩
  | fail "rd"))
local macro_rules | `(tactic| walk_at "rd") => `(tactic| repeat' walk_at "rd1")


/-! ### the law's try -/
def spTold (P : Program) (w : World) (K : PySem.W.Frag) : Sp := fun vs H Q _ => ∃ r v n s, vs = [r, v, n, s] ∧
  ((∃ rows lv ne so, Right K H r v n s rows lv ne so ∧ ∀ H', Same H H' → Q (.str "none") H') ∨
   (∃ y, Wrongly P w K H r v n s y ∧ ∀ l H', H l = none → Same H H' → H' l = some (.lst [y, .bl true, .bl false]) → Q (.ref l) H'))
/-- the classes that the law asks about -/
structure Tst (K : PySem.W.Frag) (mg : Str → Option Value) (CI CG CP : Addr) : Prop where
  gG : mg "GapError" = some (.ref CG)
  gP : mg "InvalidPlan" = some (.ref CP)
  kG : PySem.W.kitOne K (.ref CI) (.ref CG) = some true
  kP : PySem.W.kitOne K (.ref CI) (.ref CP) = some false
section
variable {P : Program} {w : World} {K : PySem.W.Frag} {mg : Str → Option Value} {base : Heap} {C CI CG CP : Addr} {st : Stmt}
abbrev s_law_told_error : Stmt := top 25
theorem sc_law_told_error : FnScope ["parts", "vouch", "least", "signing", "e"] ["parts", "vouch", "least", "signing"] (defScope s_law_told_error) := ⟨rfl, rfl, rfl, by decide +kernel, rfl, by decide +kernel, by decide +kernel⟩
theorem ok_told (D : DefK K mg "_law_told_error" s_law_told_error) (T : Txt K mg) (I : ExnQ K mg "InvalidContents" CI "InvalidContents.__init__" st "part") (S : Tst K mg CI CG CP) (M_Contents : MakN P w K mg base (L2.CX P w) 7 "Contents" C 2 ["needed", "signers"] (fun vs zs => vs ++ zs) (spCInit P w K C CI)) : Cal P w K mg base CX0 9 "_law_told_error" (spTold P w K) := by
  refine D.cal sc_law_told_error (fun _ _ _ _ _ _ us hl => match us, hl with | [_, _, _, _], _ => rfl) (fun vs H Q E h => ?_) fun f cdv A outer s H vs Q E hr h => ?_
  · obtain ⟨r, v, n, s, rfl, _⟩ := h; rfl
  · obtain ⟨r, v, n, s, rfl, h⟩ := h
    have gG := S.gG
    have gP := S.gP
    refine ⟨_, (pss_cons (ps_try (.named (i := 4) rfl rfl ⟨rfl, by decide, .inl I.mg_⟩ (fun a oe cls d pn hz hf => pss_one (ps_ret (pe_lst (pa_cons (pe_xf I.xk.xf I.no hz hf (pv 4)) (pa_cons (pe_callB (call_isX I.xk hz hf) (by rfl) T.b_isinstance (by decide +kernel) (pa_cons (pv 4) (pa_cons (pe_glob (v := .ref CG) rfl gG rfl) pa_nil))) (pa_cons (pe_callB (call_isX I.xk hz hf) (by rfl) T.b_isinstance (by decide +kernel) (pa_cons (pv 4) (pa_cons (pe_glob (v := .ref CP) rfl gP rfl) pa_nil))) pa_nil)))))) .cut) rfl rfl sc_law_told_error.nd takes0 (fun W pn xe tk _ => pss_one (ps_expr (pe_mkNS M_Contents tk hr (by decide) rfl (pa_cons (pv 0) (pa_cons (pv 1) pa_nil)) (pk_cons (pv 2) (pk_cons (pv 3) pk_nil))))))
      (pss_one (ps_ret pe_str))), ?_⟩
    refine ⟨_, rfl, _, rfl, _, rfl, _, rfl, rfl, rfl, fun x dx nx ndx nex => ⟨x, dx, r, v, n, s, H, rfl, upd_same, same_new' (same_new ndx) (by rw [upd_ne (Ne.symm nex)]; exact nx), nx, ?_⟩⟩
    rcases h with ⟨rows, lv, ne, so, R, q⟩ | ⟨y, W, q⟩
    · exact .inl ⟨rows, lv, ne, so, R, fun H' c _ _ _ s1 => ⟨rfl, q H' s1⟩⟩
    · refine .inr ⟨y, W, fun d H' nd s1 ed => ⟨true, I.te, fun _ a na => ?_, fun z => nomatch z⟩⟩
      refine ⟨_, rfl, rfl, rfl, d, _, y, rfl, ed, rfl, ?_⟩
      refine ⟨_, rfl, .ref CG, .ref CG, true, d, _, rfl, rfl, rfl, ed, fun _ z => z, S.kG, ?_⟩
      refine ⟨_, rfl, .ref CP, .ref CP, false, d, _, rfl, rfl, rfl, ed, fun _ z => z, S.kP, ?_⟩
      exact ⟨by show 3 ≤ sizeLine; decide, fun l nl => q l _ (s1.free nl) (same_new' s1 nl) upd_same⟩
def spDue : Sp := fun vs H Q _ => ∃ z, vs = [.str z] ∧ ∀ l, H l = none → Q (.ref l) (upd H l (.lst [.str z, .bl true, .bl false]))
abbrev s_law_due : Stmt := top 26
theorem sc_law_due : FnScope ["word"] ["word"] (defScope s_law_due) := ⟨rfl, rfl, rfl, by decide +kernel, rfl, by decide +kernel, by decide +kernel⟩
theorem ok_due (D : DefK K mg "_law_due" s_law_due) : Cal P w K mg base CX0 1 "_law_due" spDue := by
  refine D.cal sc_law_due (fun _ _ _ _ _ _ us hl => match us, hl with | [_], _ => rfl) (fun vs H Q E h => ?_) fun f cdv A outer s H vs Q E hr h => ?_
  · obtain ⟨z, rfl, _⟩ := h; rfl
  · obtain ⟨z, rfl, q⟩ := h
    refine ⟨_, (pss_one (ps_ret (pe_lst (pa_cons (pv 0) (pa_cons pe_bl (pa_cons pe_bl pa_nil)))))), ?_⟩
    exact ⟨_, rfl, by show 3 ≤ sizeLine; decide, q⟩
end

end K07

namespace K07
open PySem PySem.Spec PyProof.Rows L2 Jg
local macro_rules | `(tactic| walk_at "rd1") => `(tactic| (first
  | refine ⟨_, rfl, ?_⟩
  | refine ⟨_, _, rfl, rfl, ?_⟩
  | refine ⟨_, _, rfl, ?_⟩
  | refine ⟨rfl, ?_⟩
  | (refine ⟨show (0 : Int) < _ by omega, ?_⟩)
  | (refine ⟨Or.inl ⟨by omega, by omega⟩, ?_⟩)
  | (refine ⟨Or.inr ⟨by omega, by omega⟩, ?_⟩)
  | (refine ⟨(⟨by decide, by decide, by decide⟩ : CPow _ _), ?_⟩)
  | refine Or.inl ⟨_, rfl, ?_⟩
  | refine Or.inr ⟨_, rfl, ?_⟩
  | fail "rd"))
local macro_rules | `(tactic| walk_at "rd") => `(tactic| repeat' walk_at "rd1")


/-! ### what is given wrong: values that a display makes, seen without what is being made -/
def hid (M : List Addr) (H : Hp) : Hp := fun q => if q ∈ M then none else H q
theorem hid_in {M : List Addr} {H : Hp} {q : Addr} {o : HO} (h : H q = some o) (n : q ∉ M) : hid M H q = some o := by unfold hid; rw [if_neg n]; exact h
theorem hid_get {M : List Addr} {H : Hp} {q : Addr} {o : HO} (h : hid M H q = some o) : H q = some o ∧ q ∉ M := by
  unfold hid at h
  by_cases c : q ∈ M
  · rw [if_pos c] at h; cases h
  · rw [if_neg c] at h; exact ⟨h, c⟩
theorem hid_same {M : List Addr} {H : Hp} : Same (hid M H) H := fun q o e => (hid_get e).1
theorem hid_keep {M : List Addr} {H H' : Hp} (s : Same H H') : Same (hid M H) (hid M H') := fun q o e => hid_in (s _ _ (hid_get e).1) (hid_get e).2
theorem hid_nil {H : Hp} : hid [] H = H := funext fun q => if_neg (by simp)
def Mono (P : Hp → V → Prop) : Prop := ∀ H H' v, Same H H' → P H v → P H' v
structure Gv (H0 : Hp) (σ : L2.St) (te : TE) (P : Hp → V → Prop) : Prop where
  mo : Mono P
  run : ∀ (M : List Addr) (H : Hp) (Q : VK), Same H0 (hid M H) → (∀ q ∈ M, H q ≠ none) → (∀ v H', Same H H' → P (hid M H') v → Q v H') → te σ H Q
structure GvA (H0 : Hp) (σ : L2.St) (t : TA) (Ps : List (Hp → V → Prop)) : Prop where
  mo : ∀ P ∈ Ps, Mono P
  run : ∀ (M : List Addr) (H : Hp) (Q : List V → Hp → Prop), Same H0 (hid M H) → (∀ q ∈ M, H q ≠ none) → (∀ vs H', Same H H' → Paired (fun v P => P (hid M H') v) vs Ps → Q vs H') → t σ H Q
theorem par_mono {H H' : Hp} (s : Same H H') : ∀ {vs : List V} {Ps : List (Hp → V → Prop)}, (∀ P ∈ Ps, Mono P) → Paired (fun v P => P H v) vs Ps → Paired (fun v P => P H' v) vs Ps
  | _, _, _, .nil => .nil
  | _, _, m, .cons a r => .cons (m _ List.mem_cons_self _ _ _ s a) (par_mono s (fun P h => m P (List.mem_cons_of_mem _ h)) r)
theorem par_len {F : V → (Hp → V → Prop) → Prop} : ∀ {vs : List V} {Ps : List (Hp → V → Prop)}, Paired F vs Ps → vs.length = Ps.length
  | _, _, .nil => rfl
  | _, _, .cons _ r => by rw [List.length_cons, List.length_cons, par_len r]
theorem gva_nil {H0 : Hp} {σ : L2.St} : GvA H0 σ tNil [] := ⟨(fun _ h => nomatch h), fun M H Q s n q => q [] H (.refl _) .nil⟩
theorem gva_cons {H0 : Hp} {σ : L2.St} {te : TE} {t : TA} {P : Hp → V → Prop} {Ps : List (Hp → V → Prop)} (h : Gv H0 σ te P) (r : GvA H0 σ t Ps) : GvA H0 σ (tCons te t) (P :: Ps) :=
  ⟨fun R hR => (List.mem_cons.mp hR).elim (fun e => e ▸ h.mo) (r.mo R), fun M H Q s n q => h.run M H _ s n fun v H1 s1 p1 => r.run M H1 _ (s.trans (hid_keep s1)) (fun x hx z => by
    cases c : H x with
    | none => exact n x hx c
    | some o => rw [s1 _ _ c] at z; cases z) fun vs H2 s2 p2 => q (v :: vs) H2 (s1.trans s2) (.cons (h.mo _ _ _ (hid_keep s2) p1) p2)⟩
theorem gv_c {H0 : Hp} {σ : L2.St} {v : V} {P : Hp → V → Prop} (mo : Mono P) (h : ∀ H, Same H0 H → P H v) : Gv H0 σ (tC v) P := ⟨mo, fun M H Q s _ q => q v H (.refl _) (h _ s)⟩
theorem gv_v {H0 : Hp} {σ : L2.St} {i : Nat} {v : V} {P : Hp → V → Prop} (e : σ[i]? = some (some v)) (mo : Mono P) (h : ∀ H, Same H0 H → P H v) : Gv H0 σ (tVar i) P := ⟨mo, fun M H Q s _ q => ⟨v, e, q v H (.refl _) (h _ s)⟩⟩
theorem Gv.imp {H0 : Hp} {σ : L2.St} {te : TE} {P P' : Hp → V → Prop} (h : Gv H0 σ te P) (mo : Mono P') (i : ∀ H v, Same H0 H → P H v → P' H v) : Gv H0 σ te P' := ⟨mo, fun M H Q s n q => h.run M H Q s n fun v H' s' p => q v H' s' (i _ v (s.trans (hid_keep s')) p)⟩
theorem out_new {M : List Addr} {H : Hp} {p : Addr} (n : ∀ q ∈ M, H q ≠ none) (np : H p = none) : p ∉ M := fun h => n p h np
/-- a new object -/
theorem gv_new {H0 : Hp} {σ : L2.St} {te : TE} {P : Hp → V → Prop} {o : HO} (mo : Mono P) (h : ∀ H Q, (∀ p, H p = none → Q (.ref p) (upd H p o)) → te σ H Q) (k : ∀ H p, H p = some o → P H (.ref p)) : Gv H0 σ te P :=
  ⟨mo, fun M H Q s n q => h H Q fun p np => q _ _ (same_new np) (k _ _ (hid_in upd_same (out_new n np)))⟩
theorem gv_seq {H0 : Hp} {σ : L2.St} {te : TE} {t : TA} {P : Hp → V → Prop} {Ps : List (Hp → V → Prop)} {o : List V → HO} (mo : Mono P) (h : GvA H0 σ t Ps)
    (ht : ∀ H Q, t σ H (fun xs H1 => xs.length ≤ sizeLine ∧ ∀ p, H1 p = none → Q (.ref p) (upd H1 p (o xs))) → te σ H Q) (few : Ps.length ≤ 1000) (k : ∀ H p vs, Same H0 H → H p = some (o vs) → Paired (fun v P => P H v) vs Ps → P H (.ref p)) : Gv H0 σ te P :=
  ⟨mo, fun M H Q s n q => ht H Q (h.run M H _ s n fun vs H1 s1 p1 => ⟨by rw [par_len p1, sizeLine_eq]; omega, fun p np => q _ _ (same_new' s1 np) (k _ _ vs (s.trans (hid_keep (same_new' s1 np))) (hid_in upd_same (fun z => n p z (s1.free np))) (par_mono (hid_keep (same_new np)) h.mo p1))⟩)⟩
theorem gv_lst {H0 : Hp} {σ : L2.St} {t : TA} {P : Hp → V → Prop} {Ps : List (Hp → V → Prop)} (mo : Mono P) (h : GvA H0 σ t Ps) (few : Ps.length ≤ 1000) (k : ∀ H p vs, Same H0 H → H p = some (.lst vs) → Paired (fun v P => P H v) vs Ps → P H (.ref p)) : Gv H0 σ (tLst t) P :=
  gv_seq (o := .lst) mo h (fun _ _ z => z) few k
theorem gv_tup {H0 : Hp} {σ : L2.St} {t : TA} {P : Hp → V → Prop} {Ps : List (Hp → V → Prop)} (mo : Mono P) (h : GvA H0 σ t Ps) (few : Ps.length ≤ 1000) (k : ∀ H p vs, Same H0 H → H p = some (.tup vs) → Paired (fun v P => P H v) vs Ps → P H (.ref p)) : Gv H0 σ (tTup t) P :=
  gv_seq (o := .tup) mo h (fun _ _ z => z) few k
/-! ### keys that are none -/
theorem keys_no {K : PySem.W.Frag} {H : Hp} {y : V} {m : Int} {t : Value} (ty : ∀ H', Same H H' → TyX K H' y t) (k1 : kit K t "list" false) (k2 : kit K t "tuple" false) : KeysIs K H y m false := fun H' Q s q => ⟨y, m, rfl, .inr ⟨t, fun H2 s2 => ty H2 (s.trans s2), k1, k2, q⟩⟩
theorem keys_lst {K : PySem.W.Frag} {H : Hp} {l : Addr} {m : Int} {xs : List V} (e : H l = some (.lst xs)) (few : xs.length ≤ 500) (its : ∀ x ∈ xs, ItOk K H x) : KeysIs K H (.ref l) m (keysB xs m) := fun H' Q s q =>
  ⟨_, m, rfl, .inl ⟨l, true, xs, rfl, SqL.of (s _ _ e), fun H2 s2 => .base (.lst (s2 _ _ (s _ _ e))), few, fun x hx => (its x hx).keep s, q⟩⟩
theorem keys_tup {K : PySem.W.Frag} {H : Hp} {l : Addr} {m : Int} {xs : List V} (e : H l = some (.tup xs)) (few : xs.length ≤ 500) (its : ∀ x ∈ xs, ItOk K H x) : KeysIs K H (.ref l) m (keysB xs m) := fun H' Q s q =>
  ⟨_, m, rfl, .inl ⟨l, false, xs, rfl, SqT.of (s _ _ e), fun H2 s2 => .base (.tup (s2 _ _ (s _ _ e))), few, fun x hx => (its x hx).keep s, q⟩⟩
theorem keysB_bad {xs : List V} {m : Int} {x : V} (h : x ∈ xs) (f : flagV x = false) : keysB xs m = false := by
  unfold keysB
  have e : xs.all flagV = false := by
    cases c : xs.all flagV with
    | false => rfl
    | true => have z := List.all_eq_true.mp c x h; rw [f] at z; cases z
  rw [e]; simp
theorem keysB_big {xs : List V} {m : Int} (h : m < (xs.length : Int)) : keysB xs m = false := by
  unfold keysB
  rw [decide_eq_true h]; rfl
theorem keysB_twice {z : Str} {m : Int} : keysB [.str z, .str z] m = false := by
  unfold keysB
  have e : ¬ (onceW ([V.str z, V.str z].map txV)).length = [V.str z, V.str z].length := fun h => by
    have nd := ((onceW_all [z, z] []).mp (by simpa [onceW, txV] using h)).1
    simp at nd
  rw [decide_eq_false e]; simp
theorem keysB_one {z : Str} {m : Int} (h : wordB z = true) (hm : 1 ≤ m) : keysB [.str z] m = true := by
  unfold keysB
  have e : (onceW ([V.str z].map txV)).length = [V.str z].length := rfl
  rw [decide_eq_true e, decide_eq_false (by show ¬ m < ((1 : Nat) : Int); omega)]
  show (true && (([V.str z].all flagV) && true)) = true
  rw [show ([V.str z].all flagV) = (wordB z && true) from rfl, h]; rfl
theorem mono_keys {K : PySem.W.Frag} {m : Int} {fl : Bool} : Mono (fun H v => KeysIs K H v m fl) := fun _ _ _ s h => h.keep s
theorem mono_odd {K : PySem.W.Frag} : Mono (fun H v => v ≠ .non ∧ KeysIs K H v 4 false) := fun _ _ _ s h => ⟨h.1, h.2.keep s⟩
theorem mono_eq {y : V} : Mono (fun _ v => v = y) := fun _ _ _ _ h => h
/-- no key at all -/
structure BadV (K : PySem.W.Frag) (H : Hp) (y : V) : Prop where
  it : ItOk K H y
  fl : flagV y = false
  wd : WordIs K H y false
theorem BadV.keep {K : PySem.W.Frag} {H H' : Hp} {y : V} (h : BadV K H y) (s : Same H H') : BadV K H' y := ⟨h.it.keep s, h.fl, h.wd.keep s⟩
theorem mono_bad {K : PySem.W.Frag} : Mono (BadV K) := fun _ _ _ s h => h.keep s
theorem bad_str {K : PySem.W.Frag} {H : Hp} {z : Str} (hz : z.length ≤ sizeLine) (h : wordB z = false) : BadV K H (.str z) := ⟨.inl ⟨z, rfl, hz⟩, h, .inl ⟨z, rfl, hz, h.symm⟩⟩
theorem bad_ty {K : PySem.W.Frag} {H : Hp} {y : V} {t : Value} (ty : ∀ H', Same H H' → TyX K H' y t) (k : kit K t "str" false) (n : ∀ z, y ≠ .str z) : BadV K H y := ⟨.inr ⟨t, ty, k, n⟩, by
  cases y with
  | str z => exact absurd rfl (n z)
  | _ => rfl, .inr ⟨rfl, t, ty, k⟩⟩
theorem gva_go {H0 : Hp} {σ : L2.St} {t : TA} {Ps : List (Hp → V → Prop)} {Q : List V → Hp → Prop} (g : GvA H0 σ t Ps) (k : ∀ vs H', Same H0 H' → Paired (fun v P => P H' v) vs Ps → Q vs H') : t σ H0 Q :=
  g.run [] H0 Q (by rw [hid_nil]; exact .refl _) (fun _ h => nomatch h) fun vs H' s p => k vs H' s (by rw [hid_nil] at p; exact p)
theorem par_rep {H : Hp} {P : Hp → V → Prop} : ∀ {n : Nat} {vs : List V}, Paired (fun v P => P H v) vs (List.replicate n P) → ∀ v ∈ vs, P H v
  | 0, _, .nil, _, h => nomatch h
  | n + 1, _, .cons a r, v, h => (List.mem_cons.mp h).elim (fun e => e ▸ a) (par_rep r v)
theorem gvl_go {H0 : Hp} {σ : L2.St} {t : TA} {Ps : List (Hp → V → Prop)} {Q : VK} (g : GvA H0 σ t Ps) (few : Ps.length ≤ 1000) (k : ∀ l vs H', H0 l = none → Same H0 H' → H' l = some (.lst vs) → Paired (fun v P => P H' v) vs Ps → Q (.ref l) H') : tLst t σ H0 Q :=
  gva_go g fun vs H1 s1 p => ⟨by rw [par_len p, sizeLine_eq]; omega, fun l nl => k l vs _ (s1.free nl) (same_new' s1 nl) upd_same (par_mono (same_new nl) g.mo p)⟩

end K07

namespace K07
open PySem PySem.Spec PyProof.Rows L2 Jg
local macro_rules | `(tactic| walk_at "rd1") => `(tactic| (first
  | refine ⟨_, rfl, ?_⟩
  | refine ⟨_, _, rfl, rfl, ?_⟩
  | refine ⟨_, _, rfl, ?_⟩
  | refine ⟨rfl, ?_⟩
  | (refine ⟨show (0 : Int) < _ by omega, ?_⟩)
  | (refine ⟨Or.inl ⟨by omega, by omega⟩, ?_⟩)
  | (refine ⟨Or.inr ⟨by omega, by omega⟩, ?_⟩)
  | (refine ⟨(⟨by decide, by decide, by decide⟩ : CPow _ _), ?_⟩)
  | refine Or.inl ⟨_, rfl, ?_⟩
  | refine Or.inr ⟨_, rfl, ?_⟩
  | fail "rd"))
local macro_rules | `(tactic| walk_at "rd") => `(tactic| repeat' walk_at "rd1")


/-! ### draws, by names -/
theorem StA.new {H : Hp} {p l : Addr} {o : HO} (h : StA H p) (n : H l = none) : StA (upd H l o) p := by
  obtain ⟨a, b, e, z⟩ := h
  exact ⟨a, b, by rw [upd_ne (ne_of_none e n)]; exact e, z⟩
theorem StA.keep {H H' : Hp} {p : Addr} (h : StA H p) (s : Same H H') : StA H' p := by
  obtain ⟨a, b, e, z⟩ := h
  exact ⟨a, b, s _ _ e, z⟩
@[irreducible] def spCh (K : PySem.W.Frag) : Sp := spChoose K
theorem use_choose {K : PySem.W.Frag} {H : Hp} {p l : Addr} {xs : List V} {Q : VK} {E : XK} (st : StA H p) (hl : SqL K H l xs) (n : l ≠ p) (h1 : 0 < xs.length) (h2 : xs.length < 1000) (k : ∀ v H', v ∈ xs → StA H' p → SameB p H H' → Q v H') : spCh K [.ref p, .ref l] H Q E := by
  unfold spCh
  obtain ⟨a, b, e, ha⟩ := st
  exact ⟨p, .ref l, a, b, rfl, e, ha, .inl ⟨l, xs, rfl, hl, n, h1, h2, fun i v a' b' e h => k v _ (List.mem_of_getElem? e) ⟨a', b', upd_same, h⟩ (SameB.refl _ _).mut⟩⟩
theorem chI {P : Program} {w : World} {K : PySem.W.Frag} {mg : Str → Option Value} {base : Heap} {k : Nat} {x : Str} (h : Cal P w K mg base CX0 k x (spChoose K)) : Cal P w K mg base CX0 k x (spCh K) := by unfold spCh; exact h
def spBad (K : PySem.W.Frag) : Sp := fun vs H Q _ => ∃ p : Addr, vs = [.ref p] ∧ StA H p ∧ ∀ y H', BadV K H' y → StA H' p → SameB p H H' → Q y H'
def spOddK (K : PySem.W.Frag) : Sp := fun vs H Q _ => ∃ (p l : Addr) (ws : List Str), vs = [.ref p, .ref l] ∧ StA H p ∧ H l = some (.lst (ws.map V.str)) ∧ l ≠ p ∧ (∀ z ∈ ws, Wd z) ∧ 0 < ws.length ∧ ws.length < 1000 ∧
  ∀ (r : Addr) (xs : List V) (H' : Hp), H r = none → H' r = some (.lst xs) → xs.length = 11 → (∀ x ∈ xs, x ≠ .non ∧ KeysIs K H' x 4 false) → StA H' p → SameB p H H' → Q (.ref r) H'
section
variable {P : Program} {w : World} {K : PySem.W.Frag} {mg : Str → Option Value} {base : Heap} {C CI CG CP : Addr} {st : Stmt}
abbrev s_law_bad : Stmt := top 27
theorem sc_law_bad : FnScope ["stream"] ["stream"] (defScope s_law_bad) := ⟨rfl, rfl, rfl, by decide +kernel, rfl, by decide +kernel, by decide +kernel⟩
theorem ok_bad_ (D : DefK K mg "_law_bad" s_law_bad) (G_law_choose : Cal P w K mg base CX0 2 "_law_choose" (spCh K)) : Cal P w K mg base CX0 3 "_law_bad" (spBad K) := by
  refine D.cal sc_law_bad (fun _ _ _ _ _ _ us hl => match us, hl with | [_], _ => rfl) (fun vs H Q E h => ?_) fun f cdv A outer s H vs Q E hr h => ?_
  · obtain ⟨p, rfl, _⟩ := h; rfl
  · obtain ⟨p, rfl, st, k⟩ := h
    refine ⟨_, (pss_one (ps_ret (pe_c G_law_choose hr (by decide) rfl (pa_cons (pv 0) (pa_cons (pe_lst (pa_cons pe_str (pa_cons pe_str (pa_cons pe_str (pa_cons pe_str (pa_cons pe_str (pa_cons pe_int (pa_cons pe_non (pa_cons pe_bl (pa_cons (pe_tup (pa_cons pe_str pa_nil)) pa_nil)))))))))) pa_nil))))), ?_⟩
    refine ⟨_, rfl, by show 1 ≤ sizeLine; decide, fun t nt => ⟨by show 9 ≤ sizeLine; decide, fun l nl => ?_⟩⟩
    have st2 := (st.new (o := .tup [.str "a"]) nt).new (o := .lst [.str "", .str "A", .str "a b", .str "abcdefghi", .str "a1", .int 5, .non, .bl true, .ref t]) nl
    have tp : t ≠ p := st.ne nt
    have lt : t ≠ l := fun z => by rw [← z, upd_same] at nl; cases nl
    refine use_choose st2 (SqL.of upd_same) ((st.new nt).ne nl) (by show 0 < 9; decide) (by show 9 < 1000; decide) fun v H' hv st' s => k v H' ?_ st' (((SameB.refl p H).new nt).new nl |>.trans s)
    have et : H' t = some (.tup [.str "a"]) := s _ _ (by rw [upd_ne lt, upd_same]) tp
    have z9 : ∀ n : Nat, n ≤ 1000 → n ≤ sizeLine := fun n h => by rw [sizeLine_eq]; omega
    simp only [List.mem_cons, List.not_mem_nil, or_false] at hv
    rcases hv with rfl | rfl | rfl | rfl | rfl | rfl | rfl | rfl | rfl
    · exact bad_str (by decide +kernel) (by decide +kernel)
    · exact bad_str (by decide +kernel) (by decide +kernel)
    · exact bad_str (by decide +kernel) (by decide +kernel)
    · exact bad_str (by decide +kernel) (by decide +kernel)
    · exact bad_str (by decide +kernel) (by decide +kernel)
    · exact bad_ty (fun _ _ => .base (.int _)) (kit_ty (by decide +kernel)) (fun z q => nomatch q)
    · exact bad_ty (fun _ _ => .base .non) (kit_ty (by decide +kernel)) (fun z q => nomatch q)
    · exact bad_ty (fun _ _ => .base (.bl _)) (kit_ty (by decide +kernel)) (fun z q => nomatch q)
    · exact bad_ty (fun _ s2 => .base (.tup (s2 _ _ et))) (kit_ty (by decide +kernel)) (fun z q => nomatch q)
theorem ok_bad (D : DefK K mg "_law_bad" s_law_bad) (G_law_choose : Cal P w K mg base CX0 2 "_law_choose" (spChoose K)) : Cal P w K mg base CX0 3 "_law_bad" (spBad K) := ok_bad_ D (chI G_law_choose)
abbrev s_law_odd_keys : Stmt := top 29
theorem sc_law_odd_keys : FnScope ["stream", "good", "key", "bad"] ["stream", "good"] (defScope s_law_odd_keys) := ⟨rfl, rfl, rfl, by decide +kernel, rfl, by decide +kernel, by decide +kernel⟩
theorem word_its {K : PySem.W.Frag} {H : Hp} {z : Str} (h : Wd z) : ItOk K H (.str z) := .inl ⟨z, rfl, h.ok.1⟩
theorem ok_oddk_ (D : DefK K mg "_law_odd_keys" s_law_odd_keys) (T : Txt K mg) (G_law_choose : Cal P w K mg base CX0 2 "_law_choose" (spCh K)) (G_law_bad : Cal P w K mg base CX0 3 "_law_bad" (spBad K)) : Cal P w K mg base CX0 4 "_law_odd_keys" (spOddK K) := by
  refine D.cal sc_law_odd_keys (fun _ _ _ _ _ _ us hl => match us, hl with | [_, _], _ => rfl) (fun vs H Q E h => ?_) fun f cdv A outer s H vs Q E hr h => ?_
  · obtain ⟨p, l, ws, rfl, _⟩ := h; rfl
  · obtain ⟨p, l, ws, rfl, st, el, lp, wd, l0, l9, k⟩ := h
    refine ⟨_, (pss_cons (ps_par (i := 2) (j := 3) (by rfl) sc_law_odd_keys.nd rfl rfl (by decide) rfl rfl (pa_cons (pe_c G_law_choose hr (by decide) rfl (pa_cons (pv 0) (pa_cons (pv 1) pa_nil))) (pa_cons (pe_c G_law_bad hr (by decide) rfl (pa_cons (pv 0) pa_nil)) pa_nil)) (by rfl))
      (pss_one (ps_ret (pe_lst (pa_cons pe_int (pa_cons pe_str (pa_cons pe_dnewK (pa_cons (pe_lst (pa_cons (pv 2) (pa_cons (pv 2) pa_nil))) (pa_cons (pe_tup (pa_cons (pv 2) (pa_cons (pe_op op_mul_str pe_str pe_int) pa_nil))) (pa_cons (pe_lst (pa_cons (pv 3) pa_nil)) (pa_cons (pe_lst (pa_cons (pv 2) (pa_cons (pv 3) pa_nil))) (pa_cons (pe_callTy (call_listS rfl) (by rfl) T.b_list (by decide +kernel) (pa_cons pe_str pa_nil)) (pa_cons (pe_disp (pps_cons (pv 2) pe_int pps_nil) (by rfl) (by rfl) (fun z => by cases z) (by decide)) (pa_cons pe_bl (pa_cons (pe_lst (pa_cons (pe_lst (pa_cons (pv 2) pa_nil)) pa_nil)) pa_nil))))))))))))))), ?_⟩
    refine ⟨_, rfl, _, rfl, use_choose st (SqL.of el) lp (by rw [List.length_map]; exact l0) (by rw [List.length_map]; exact l9) fun v H1 hv st1 s1 => ?_⟩
    obtain ⟨z, hz, rfl⟩ := List.mem_map.mp hv
    have wz := wd z hz
    refine ⟨_, rfl, p, rfl, st1, fun y H2 hb st2 s2 => ?_⟩
    -- the values
    have none_ : ∀ {x : V} {t : Value}, (∀ H', Same H2 H' → TyX K H' x t) → kit K t "list" false → kit K t "tuple" false → x ≠ .non → ∀ H, Same H2 H → x ≠ .non ∧ KeysIs K H x 4 false := fun ty k1 k2 n H s => ⟨n, keys_no (fun H' s' => ty H' (s.trans s')) k1 k2⟩
    have kv : ∀ {t : TA} {Ps : List (Hp → V → Prop)}, GvA H2 [some (.ref p), some (.ref l), some (.str z), some y] t Ps → Ps.length ≤ 100 → (∀ H vs, Same H2 H → Paired (fun v P => P H v) vs Ps → (∀ x ∈ vs, ItOk K H x) ∧ keysB vs 4 = false) → Gv H2 [some (.ref p), some (.ref l), some (.str z), some y] (tLst t) (fun H v => v ≠ .non ∧ KeysIs K H v 4 false) := fun g few kk => gv_lst mono_odd g (Nat.le_trans few (by decide)) fun H q vs s e h => ⟨(fun q => nomatch q), by
      obtain ⟨its, kb⟩ := kk H vs s h
      have z1 := keys_lst (K := K) (m := 4) e (by rw [par_len h]; omega) its
      rw [kb] at z1; exact z1⟩
    have mem1 : ∀ {H : Hp} {a : V}, ItOk K H a → ∀ x ∈ [a], ItOk K H x := fun h x hx => by rw [List.mem_singleton.mp hx]; exact h
    have mem2 : ∀ {H : Hp} {a b : V}, ItOk K H a → ItOk K H b → ∀ x ∈ [a, b], ItOk K H x := fun h1 h2 x hx => (List.mem_cons.mp hx).elim (fun e => e ▸ h1) fun hx => mem1 h2 x hx
    refine ⟨_, _, rfl, ?_⟩
    dsimp only [tRet]
    refine gvl_go (H0 := H2) (σ := [some (.ref p), some (.ref l), some (.str z), some y]) (Ps := List.replicate 11 fun H v => v ≠ .non ∧ KeysIs K H v 4 false) ?_ (by simp) fun r xs H3 nr s3 e3 par => ?_
    · have g2 : ∀ {P : Hp → V → Prop} {t : TA} {Ps : List (Hp → V → Prop)}, Mono P → (∀ H, Same H2 H → P H (.str z)) → GvA H2 [some (.ref p), some (.ref l), some (.str z), some y] t Ps → GvA H2 [some (.ref p), some (.ref l), some (.str z), some y] (tCons (tVar 2) t) (P :: Ps) := fun mo h r => gva_cons (gv_v rfl mo h) r
      have g3 : ∀ {P : Hp → V → Prop} {t : TA} {Ps : List (Hp → V → Prop)}, Mono P → (∀ H, Same H2 H → P H y) → GvA H2 [some (.ref p), some (.ref l), some (.str z), some y] t Ps → GvA H2 [some (.ref p), some (.ref l), some (.str z), some y] (tCons (tVar 3) t) (P :: Ps) := fun mo h r => gva_cons (gv_v rfl mo h) r
      refine gva_cons (gv_c mono_odd (none_ (fun _ _ => .base (.int _)) (kit_ty (by decide +kernel)) (kit_ty (by decide +kernel)) (fun q => nomatch q))) ?_
      refine gva_cons (gv_c mono_odd (none_ (fun _ _ => .base (.str _)) (kit_ty (by decide +kernel)) (kit_ty (by decide +kernel)) (fun q => nomatch q))) ?_
      refine gva_cons (gv_new (o := .dK []) mono_odd (fun _ _ h => h) fun H p e => ⟨(fun q => nomatch q), keys_no (fun H' s' => .base (.dK (s' _ _ e))) (kit_ty (by decide +kernel)) (kit_ty (by decide +kernel))⟩) ?_
      refine gva_cons (kv (g2 (mono_eq (y := .str z)) (fun _ _ => rfl) (g2 (mono_eq (y := .str z)) (fun _ _ => rfl) gva_nil)) (by simp) fun H vs s h => ?_) ?_
      · cases h with | cons a r => cases r with | cons b r => cases r; subst a b; exact ⟨mem2 (word_its wz) (word_its wz), keysB_twice⟩
      refine gva_cons (gv_tup mono_odd (g2 (mono_eq (y := .str z)) (fun _ _ => rfl) (gva_cons (P := fun _ v => v = .str (timesT "b" 9)) ⟨mono_eq, fun M H Q s n q => ⟨_, _, rfl, rfl, by decide, by decide, by decide, q _ _ (.refl _) rfl⟩⟩ gva_nil)) (by simp) fun H q vs s e h => ?_) ?_
      · cases h with | cons a r => cases r with | cons b r =>
          cases r; subst a b
          have z1 := keys_tup (K := K) (m := 4) e (by show 2 ≤ 500; decide) (mem2 (word_its wz) (.inl ⟨_, rfl, by decide +kernel⟩))
          rw [keysB_bad (List.mem_cons_of_mem _ List.mem_cons_self) (by show wordB _ = false; decide +kernel)] at z1
          exact ⟨(fun q => nomatch q), z1⟩
      refine gva_cons (kv (g3 (mono_bad (K := K)) (fun _ s => hb.keep s) gva_nil) (by simp) fun H vs s h => ?_) ?_
      · cases h with | cons a r => cases r; exact ⟨mem1 a.it, keysB_bad List.mem_cons_self a.fl⟩
      refine gva_cons (kv (g2 (mono_eq (y := .str z)) (fun _ _ => rfl) (g3 (mono_bad (K := K)) (fun _ s => hb.keep s) gva_nil)) (by simp) fun H vs s h => ?_) ?_
      · cases h with | cons a r => cases r with | cons b r => cases r; subst a; exact ⟨mem2 (word_its wz) b.it, keysB_bad (List.mem_cons_of_mem _ List.mem_cons_self) b.fl⟩
      refine gva_cons (gv_new (o := .lst (("abcde" : Str).cps.toList.map fun c => V.str ⟨#[c]⟩)) mono_odd (fun _ _ h => ⟨_, rfl, by decide +kernel, h⟩) fun H q e => ⟨(fun q => nomatch q), ?_⟩) ?_
      · have z1 := keys_lst (K := K) (m := 4) e (by decide +kernel) (fun x hx => by
          obtain ⟨c, _, rfl⟩ := List.mem_map.mp hx
          exact .inl ⟨_, rfl, by show 1 ≤ sizeLine; decide⟩)
        rw [keysB_big (by decide +kernel)] at z1; exact z1
      refine gva_cons ⟨mono_odd, fun M H Q s n q d nd => ⟨_, rfl, upd_same, [(.inr z, .int 1)], rfl, by simp, ?_⟩⟩ ?_
      · rw [upd_upd]
        exact q _ _ (same_new nd) ⟨(fun q => nomatch q), keys_no (fun H' s' => .base (.dK (s' _ _ (hid_in upd_same (out_new n nd))))) (kit_ty (by decide +kernel)) (kit_ty (by decide +kernel))⟩
      refine gva_cons (gv_c mono_odd (none_ (fun _ _ => .base (.bl _)) (kit_ty (by decide +kernel)) (kit_ty (by decide +kernel)) (fun q => nomatch q))) ?_
      refine gva_cons (kv (gva_cons (P := fun H v => ItOk K H v ∧ flagV v = false) (gv_lst (fun _ _ _ s h => ⟨h.1.keep s, h.2⟩) (g2 (mono_eq (y := .str z)) (fun _ _ => rfl) gva_nil) (by simp) fun H q vs s e h => ⟨.inr ⟨_, fun _ s2 => .base (.lst (s2 _ _ e)), kit_ty (by decide +kernel), fun _ q => nomatch q⟩, rfl⟩) gva_nil) (by simp) fun H vs s h => ?_) ?_
      · cases h with | cons a r => cases r; exact ⟨mem1 a.1, keysB_bad List.mem_cons_self a.2⟩
      exact gva_nil
    · have s0 := s1.trans (s2.trans (SameB.of s3))
      exact k r xs _ ((s1.trans s2).free nr (st2.ne nr)) e3 (par_len par) (fun x hx => par_rep par x hx) (st2.keep s3) s0
theorem ok_oddk (D : DefK K mg "_law_odd_keys" s_law_odd_keys) (T : Txt K mg) (G_law_choose : Cal P w K mg base CX0 2 "_law_choose" (spChoose K)) (G_law_bad : Cal P w K mg base CX0 3 "_law_bad" (spBad K)) : Cal P w K mg base CX0 4 "_law_odd_keys" (spOddK K) := ok_oddk_ D T (chI G_law_choose) G_law_bad
end

end K07

namespace K07
open PySem PySem.Spec PyProof.Rows L2 Jg
local macro_rules | `(tactic| walk_at "rd1") => `(tactic| (first
  | refine ⟨_, rfl, ?_⟩
  | refine ⟨_, _, rfl, rfl, ?_⟩
  | refine ⟨_, _, rfl, ?_⟩
  | refine ⟨rfl, ?_⟩
  | (refine ⟨show (0 : Int) < _ by omega, ?_⟩)
  | (refine ⟨Or.inl ⟨by omega, by omega⟩, ?_⟩)
  | (refine ⟨Or.inr ⟨by omega, by omega⟩, ?_⟩)
  | (refine ⟨(⟨by decide, by decide, by decide⟩ : CPow _ _), ?_⟩)
  | refine Or.inl ⟨_, rfl, ?_⟩
  | refine Or.inr ⟨_, rfl, ?_⟩
  | fail "rd"))
local macro_rules | `(tactic| walk_at "rd") => `(tactic| repeat' walk_at "rd1")


/-! ### roles that are none -/
def UseIs (K : PySem.W.Frag) (H : Hp) (y : V) (fl : Bool) : Prop := ∀ (H' : Hp) (Q : VK), Same H H' → (∀ H2, Same H' H2 → Q (.bl fl) H2) → spUse K [y] H' Q E0
theorem UseIs.keep {K : PySem.W.Frag} {H H' : Hp} {y : V} {fl : Bool} (h : UseIs K H y fl) (s : Same H H') : UseIs K H' y fl := fun H2 Q s2 q => h H2 Q (s.trans s2) q
theorem RolesIs.keep {P : Program} {w : World} {K : PySem.W.Frag} {H H' : Hp} {y : V} {fl : Bool} (h : RolesIs P w K H y fl) (s : Same H H') : RolesIs P w K H' y fl := fun H2 Q s2 q => h H2 Q (s.trans s2) q
theorem use_no {K : PySem.W.Frag} {H : Hp} {y : V} {t : Value} (ty : ∀ H', Same H H' → TyX K H' y t) (k : kit K t "tuple" false) : UseIs K H y false := fun H' Q s q => ⟨y, rfl, .inl ⟨t, ty _ s, k, q _ (.refl _)⟩⟩
theorem use_len {K : PySem.W.Frag} {H : Hp} {tp : Addr} {xs : List V} (e : H tp = some (.tup xs)) (n : xs.length ≠ 2) : UseIs K H (.ref tp) false := fun H' Q s q => ⟨_, rfl, .inr (.inl ⟨tp, xs, rfl, s _ _ e, n, q _ (.refl _)⟩)⟩
theorem use_two {K : PySem.W.Frag} {H : Hp} {tp : Addr} {a u : V} {fa fu : Bool} (e : H tp = some (.tup [a, u])) (ka : KeysIs K H a 8 fa) (wu : WordIs K H u fu) : UseIs K H (.ref tp) (fa && fu) := fun H' Q s q => ⟨_, rfl, .inr (.inr ⟨tp, a, u, fa, fu, rfl, s _ _ e, ka.keep s, wu.keep s, q⟩)⟩
theorem mono_use {K : PySem.W.Frag} {fl : Bool} : Mono (fun H v => UseIs K H v fl) := fun _ _ _ s h => h.keep s
theorem mono_word {K : PySem.W.Frag} {fl : Bool} : Mono (fun H v => WordIs K H v fl) := fun _ _ _ s h => h.keep s
theorem mono_roles {P : Program} {w : World} {K : PySem.W.Frag} {fl : Bool} : Mono (fun H v => RolesIs P w K H v fl) := fun _ _ _ s h => h.keep s
def EntI (K : PySem.W.Frag) (H : Hp) (e : Key × V) (fl : Bool) : Prop := (∃ z, e.1 = .inr z ∧ z.length ≤ sizeLine ∧ ∃ f, fl = (wordB z && f) ∧ UseIs K H e.2 f) ∨ (∃ i, e.1 = .inl i ∧ fl = false)
theorem EntI.keep {K : PySem.W.Frag} {H H' : Hp} {e : Key × V} {fl : Bool} (h : EntI K H e fl) (s : Same H H') : EntI K H' e fl := h.imp (fun ⟨z, a, b, f, c, u⟩ => ⟨z, a, b, f, c, u.keep s⟩) id
theorem EntI.b {K : PySem.W.Frag} {H H' : Hp} {d : Addr} {e : Key × V} {fl : Bool} (h : EntI K H e fl) (s : ∀ H2, SameB d H' H2 → Same H H2) : EntB K d H' e fl := by
  rcases h with ⟨z, a, b, f, rfl, u⟩ | h
  · refine .inl ⟨z, a, b, ?_⟩
    cases c : wordB z with
    | false => exact .inl ⟨rfl, rfl⟩
    | true => exact .inr ⟨rfl, fun H2 Q s2 q => u H2 Q (s _ s2) q⟩
  · exact .inr h
theorem ents_b {K : PySem.W.Frag} {H H' : Hp} {d : Addr} (s : ∀ H2, SameB d H' H2 → Same H H2) : ∀ {kvs : List (Key × V)} {fs : List Bool}, Paired (EntI K H) kvs fs → Paired (EntB K d H') kvs fs
  | _, _, .nil => .nil
  | _, _, .cons a r => .cons (a.b s) (ents_b s r)
theorem enti_keep {K : PySem.W.Frag} {H H' : Hp} (s : Same H H') : ∀ {kvs : List (Key × V)} {fs : List Bool}, Paired (EntI K H) kvs fs → Paired (EntI K H') kvs fs
  | _, _, .nil => .nil
  | _, _, .cons a r => .cons (a.keep s) (enti_keep s r)
theorem val_no : ∀ (kvs : List (Key × V)) {k : Key}, k ∉ kvs.map (·.1) → valV kvs k = none
  | [], _, _ => rfl
  | p :: r, k, h => by
    rw [List.map_cons, List.mem_cons, not_or] at h
    rw [valV_neg (fun q => h.1 q.symm)]
    exact val_no r h.2
theorem mergeK_id : ∀ (kvs acc : List (Key × V)), ((acc ++ kvs).map (·.1)).Nodup → mergeK acc kvs = acc ++ kvs
  | [], acc, _ => (List.append_nil _).symm
  | p :: r, acc, h => by
    have n : p.1 ∉ acc.map (·.1) := by
      rw [List.map_append, List.map_cons, List.nodup_append] at h
      exact fun q => h.2.2 _ q _ (List.mem_cons_self ..) rfl
    have z : putK acc p.1 p.2 = acc ++ [(p.1, p.2)] := putK_new _ (val_no acc n)
    show mergeK (putK acc p.1 p.2) r = _
    rw [z, mergeK_id r (acc ++ [(p.1, p.2)]) (by rw [List.append_assoc]; exact h), List.append_assoc]; rfl
def GvP (K : PySem.W.Frag) (H0 : Hp) (σ : L2.St) (trs : List (TE × TE)) (ks : List Key) (fs : List Bool) : Prop := ∀ (M : List Addr) (H : Hp) (Q : List (V × V) → Hp → Prop), Same H0 (hid M H) → (∀ q ∈ M, H q ≠ none) →
  (∀ kvs H', Same H H' → kvs.map (·.1) = ks → Paired (EntI K (hid M H')) kvs fs → Q (kvs.map fun kv => (kV kv.1, kv.2)) H') → tPairs trs σ H Q
theorem keep_not {M : List Addr} {H H' : Hp} (n : ∀ q ∈ M, H q ≠ none) (s : Same H H') : ∀ q ∈ M, H' q ≠ none := fun x hx z => by
  cases c : H x with
  | none => exact n x hx c
  | some o => rw [s _ _ c] at z; cases z
theorem gvp_nil {K : PySem.W.Frag} {H0 : Hp} {σ : L2.St} : GvP K H0 σ [] [] [] := fun M H Q s n q => q [] H (.refl _) rfl .nil
theorem gvp_cons {K : PySem.W.Frag} {H0 : Hp} {σ : L2.St} {z : Str} {tv : TE} {f : Bool} {trs : List (TE × TE)} {ks : List Key} {fs : List Bool} (hz : z.length ≤ sizeLine) (h : Gv H0 σ tv (fun H v => UseIs K H v f)) (r : GvP K H0 σ trs ks fs) :
    GvP K H0 σ ((tC (.str z), tv) :: trs) (.inr z :: ks) ((wordB z && f) :: fs) := fun M H Q s n q =>
  h.run M H _ s n fun v H1 s1 p1 => r M H1 _ (s.trans (hid_keep s1)) (keep_not n s1) fun kvs H2 s2 ek pr => q ((.inr z, v) :: kvs) H2 (s1.trans s2) (by rw [List.map_cons, ek]) (.cons (.inl ⟨z, rfl, hz, f, rfl, UseIs.keep p1 (hid_keep s2)⟩) pr)
theorem gvp_int {K : PySem.W.Frag} {H0 : Hp} {σ : L2.St} {i : Int} {tv : TE} {trs : List (TE × TE)} {ks : List Key} {fs : List Bool} (h : Gv H0 σ tv (fun _ _ => True)) (r : GvP K H0 σ trs ks fs) :
    GvP K H0 σ ((tC (.int i), tv) :: trs) (.inl i :: ks) (false :: fs) := fun M H Q s n q =>
  h.run M H _ s n fun v H1 s1 p1 => r M H1 _ (s.trans (hid_keep s1)) (keep_not n s1) fun kvs H2 s2 ek pr => q ((.inl i, v) :: kvs) H2 (s1.trans s2) (by rw [List.map_cons, ek]) (.cons (.inr ⟨i, rfl, rfl⟩) pr)
theorem into {H0 H : Hp} {M : List Addr} {d : Addr} {o : HO} (s : Same H0 (hid M H)) (nd : H d = none) : Same H0 (hid (d :: M) (upd H d o)) := fun q u e => by
  obtain ⟨e1, e2⟩ := hid_get (s q u e)
  have n := ne_of_none e1 nd
  exact hid_in (by rw [upd_ne n]; exact e1) (fun z => (List.mem_cons.mp z).elim n e2)
theorem into_not {H : Hp} {M : List Addr} {d : Addr} {o : HO} (n : ∀ q ∈ M, H q ≠ none) (nd : H d = none) : ∀ q ∈ d :: M, upd H d o q ≠ none := fun q hq => by
  rcases List.mem_cons.mp hq with rfl | hq
  · rw [upd_same]; exact fun z => nomatch z
  · exact keep_not n (same_new nd) q hq
theorem gv_roles {P : Program} {w : World} {K : PySem.W.Frag} {H0 : Hp} {σ : L2.St} {trs : List (TE × TE)} {ks : List Key} {fs : List Bool} {fl : Bool} (g : GvP K H0 σ trs ks fs) (nd : ks.Nodup) (n1 : 1 ≤ ks.length) (n3 : ks.length ≤ 3) (ef : fs.all id = fl) : Gv H0 σ (tDisp trs) (fun H v => RolesIs P w K H v fl) :=
  ⟨mono_roles, fun M H Q s n q p np => g (p :: M) _ _ (into s np) (into_not n np) fun kvs H1 s1 ek pr => by
    have l : kvs.length = ks.length := by rw [← ek, List.length_map]
    have mk : mergeK [] kvs = kvs := by rw [mergeK_id kvs [] (by rw [List.nil_append, ek]; exact nd), List.nil_append]
    refine ⟨s1 _ _ upd_same, kvs, rfl, by omega, ?_⟩
    rw [mk]
    have pM := out_new n np
    refine q _ _ (same_mut ((same_new np).trans s1) np) ?_
    rw [← ef]
    refine roles_of (hid_in upd_same pM) (by omega) (by omega) (by rw [ek]; exact nd) (ents_b (fun H2 s2 x o e => ?_) pr)
    obtain ⟨e1, e2⟩ := hid_get e
    have xp : x ≠ p := fun z => e2 (by rw [z]; exact List.mem_cons_self)
    exact s2 _ _ (hid_in (by rw [upd_ne xp]; exact e1) fun z => e2 (List.mem_cons_of_mem _ z)) xp⟩
theorem gv_none {P : Program} {w : World} {K : PySem.W.Frag} {H0 : Hp} {σ : L2.St} {te : TE} (g : Gv H0 σ te (fun _ _ => True)) : Gv H0 σ (tDispN P w te) (fun H v => RolesIs P w K H v false) :=
  ⟨mono_roles, fun M H Q s n q p np => g.run (p :: M) _ _ (into s np) (into_not n np) fun v H1 s1 _ => ⟨⟨_, rfl⟩, s1 _ _ upd_same, q _ _ (same_mut ((same_new np).trans s1) np) fun H2 Q2 s2 q2 => ⟨_, rfl, .inr (.inr (.inr ⟨p, rfl, s2 _ _ (hid_in upd_same (out_new n np)), q2⟩))⟩⟩⟩
theorem roles_no {P : Program} {w : World} {K : PySem.W.Frag} {H : Hp} {y : V} {t : Value} (ty : ∀ H', Same H H' → TyX K H' y t) (k : kit K t "dict" false) : RolesIs P w K H y false := fun H' Q s q => ⟨y, rfl, .inl ⟨t, ty _ s, k, q _ (.refl _)⟩⟩
theorem roles_len {P : Program} {w : World} {K : PySem.W.Frag} {H : Hp} {d : Addr} {kvs : List (Key × V)} (e : H d = some (.dK kvs)) (n : kvs.length < 1 ∨ 3 < kvs.length) : RolesIs P w K H (.ref d) false := fun H' Q s q => ⟨_, rfl, .inr (.inl ⟨d, kvs, rfl, s _ _ e, n, q _ (.refl _)⟩)⟩
theorem gv_any {H0 : Hp} {σ : L2.St} {te : TE} {P : Hp → V → Prop} (h : Gv H0 σ te P) : Gv H0 σ te (fun _ _ => True) := h.imp (fun _ _ _ _ h => h) fun _ _ _ _ => trivial
theorem gv_use2 {K : PySem.W.Frag} {H0 : Hp} {σ : L2.St} {t1 t2 : TE} {fa fu fl : Bool} (h1 : Gv H0 σ t1 (fun H v => KeysIs K H v 8 fa)) (h2 : Gv H0 σ t2 (fun H v => WordIs K H v fu)) (ef : (fa && fu) = fl) : Gv H0 σ (tTup (tCons t1 (tCons t2 tNil))) (fun H v => UseIs K H v fl) :=
  gv_tup mono_use (gva_cons h1 (gva_cons h2 gva_nil)) (by simp) fun H p vs s e h => by
    cases h with | cons a r => cases r with | cons b r => cases r; rw [← ef]; exact use_two e a b
/-- some + [..] -/
theorem add_go {H0 H : Hp} {σ : L2.St} {i n : Nat} {l : Addr} {xs : List V} {t : TA} {P : Hp → V → Prop} {Q : VK} (s : Same H0 H) (ei : σ[i]? = some (some (.ref l))) (el : H l = some (.lst xs)) (hx : ∀ x ∈ xs, P H x) (few : xs.length + n ≤ 1000) (mo : Mono P) (g : GvA H0 σ t (List.replicate n P))
    (k : ∀ l' ys H', H l' = none → Same H H' → H' l' = some (.lst ys) → ys.length = xs.length + n → (∀ y ∈ ys, P H' y) → Q (.ref l') H') : tOp rCat (tVar i) (tLst t) σ H Q :=
  ⟨_, ei, g.run [] H _ (by rw [hid_nil]; exact s) (fun _ h => nomatch h) fun vs H1 s1 p => by
    have lv := par_len p
    rw [List.length_replicate] at lv
    refine ⟨by rw [lv, sizeLine_eq]; omega, fun b nb => ?_⟩
    have s2 := same_new' (o := .lst vs) s1 nb
    refine ⟨l, b, xs, vs, rfl, rfl, s2 _ _ el, upd_same, by rw [lv, sizeLine_eq]; omega, fun r nr => ?_⟩
    have s3 := same_new' (o := .lst (xs ++ vs)) s2 nr
    refine k r (xs ++ vs) _ (s2.free nr) s3 upd_same (by rw [List.length_append, lv]) fun y hy => ?_
    rcases List.mem_append.mp hy with hy | hy
    · exact mo _ _ _ s3 (hx y hy)
    · have z := par_rep p y hy
      rw [hid_nil] at z
      exact mo _ _ _ ((same_new nb).trans (same_new nr)) z⟩

end K07

namespace K07
open PySem PySem.Spec PyProof.Rows L2 Jg
local macro_rules | `(tactic| walk_at "rd1") => `(tactic| (first
  | refine ⟨_, rfl, ?_⟩
  | refine ⟨_, _, rfl, rfl, ?_⟩
  | refine ⟨_, _, rfl, ?_⟩
  | refine ⟨rfl, ?_⟩
  | (refine ⟨show (0 : Int) < _ by omega, ?_⟩)
  | (refine ⟨Or.inl ⟨by omega, by omega⟩, ?_⟩)
  | (refine ⟨Or.inr ⟨by omega, by omega⟩, ?_⟩)
  | (refine ⟨(⟨by decide, by decide, by decide⟩ : CPow _ _), ?_⟩)
  | refine Or.inl ⟨_, rfl, ?_⟩
  | refine Or.inr ⟨_, rfl, ?_⟩
  | fail "rd"))
local macro_rules | `(tactic| walk_at "rd") => `(tactic| repeat' walk_at "rd1")


def spOddP (P : Program) (w : World) (K : PySem.W.Frag) : Sp := fun vs H Q _ => ∃ (p l : Addr) (ws : List Str), vs = [.ref p, .ref l] ∧ StA H p ∧ H l = some (.lst (ws.map V.str)) ∧ l ≠ p ∧ (∀ z ∈ ws, Wd z) ∧ 0 < ws.length ∧ ws.length < 1000 ∧
  ∀ (r : Addr) (xs : List V) (H' : Hp), H r = none → H' r = some (.lst xs) → xs.length = 23 → (∀ x ∈ xs, RolesIs P w K H' x false) → StA H' p → SameB p H H' → Q (.ref r) H'
theorem str_at {ws : List Str} {i : Nat} {x : V} (h : (ws.map V.str)[i]? = some x) : ∃ z, ws[i]? = some z ∧ x = .str z := by
  rw [List.getElem?_map] at h
  cases c : ws[i]? with
  | none => rw [c] at h; cases h
  | some z => rw [c] at h; exact ⟨z, rfl, (Option.some.inj h).symm⟩
def PrAt (H : Hp) (D p : Addr) (kv : Key × V) : Prop := H p = some (.tup [kV kv.1, kv.2]) ∧ p ≠ D
theorem pr_snoc {F G : Addr → Key × V → Prop} (s : ∀ p kv, F p kv → G p kv) : ∀ {ps : List Addr} {kvs : List (Key × V)} {p : Addr} {kv : Key × V}, Paired F ps kvs → G p kv → Paired G (ps ++ [p]) (kvs ++ [kv])
  | _, _, _, _, .nil, g => .cons g .nil
  | _, _, _, _, .cons a r, g => .cons (s _ _ a) (pr_snoc s r g)
theorem pr_imp {F G : Addr → Key × V → Prop} (s : ∀ p kv, F p kv → G p kv) : ∀ {ps : List Addr} {kvs : List (Key × V)}, Paired F ps kvs → Paired G ps kvs
  | _, _, .nil => .nil
  | _, _, .cons a r => .cons (s _ _ a) (pr_imp s r)
theorem pr_len {F : Addr → Key × V → Prop} : ∀ {ps : List Addr} {kvs : List (Key × V)}, Paired F ps kvs → ps.length = kvs.length
  | _, _, .nil => rfl
  | _, _, .cons _ r => by rw [List.length_cons, List.length_cons, pr_len r]
abbrev abcd : List Str := ["a", "b", "c", "d"]
section
variable {P : Program} {w : World} {K : PySem.W.Frag} {mg : Str → Option Value} {base : Heap} {C CI CG CP : Addr} {st : Stmt}
abbrev s_law_odd_parts : Stmt := top 28
theorem sc_law_odd_parts : FnScope ["stream", "good", "some", "key", "bad", "word"] ["stream", "good"] (defScope s_law_odd_parts) := ⟨rfl, rfl, rfl, by decide +kernel, rfl, by decide +kernel, by decide +kernel⟩
theorem ok_oddp_ (D : DefK K mg "_law_odd_parts" s_law_odd_parts) (T : Txt K mg) (G_law_choose : Cal P w K mg base CX0 2 "_law_choose" (spCh K)) (G_law_bad : Cal P w K mg base CX0 3 "_law_bad" (spBad K)) : Cal P w K mg base CX0 4 "_law_odd_parts" (spOddP P w K) := by
  refine D.cal sc_law_odd_parts (fun _ _ _ _ _ _ us hl => match us, hl with | [_, _], _ => rfl) (fun vs H Q E h => ?_) fun f cdv A outer s H vs Q E hr h => ?_
  · obtain ⟨p, l, ws, rfl, _⟩ := h; rfl
  · obtain ⟨p, l, ws, rfl, st, el, lp, wd, l0, l9, k⟩ := h
    refine ⟨_, (pss_cons (ps_asg (pe_tup (pa_cons (pe_c G_law_choose hr (by decide) rfl (pa_cons (pv 0) (pa_cons (pv 1) pa_nil))) (pa_cons (pe_c G_law_bad hr (by decide) rfl (pa_cons (pv 0) pa_nil)) pa_nil))) (pg_tup rfl (pgs_cons (pg_name (i := 3) sc_law_odd_parts.nd rfl (Or.inr rfl)) (pgs_cons (pg_name (i := 4) sc_law_odd_parts.nd rfl (Or.inl rfl)) pgs_nil))))
      (pss_cons (ps_set (i := 2) sc_law_odd_parts.nd rfl (Or.inl rfl) (pe_lst (pa_cons pe_non (pa_cons (pe_lst pa_nil) (pa_cons pe_dnewK (pa_cons (pe_tup pa_nil) (pa_cons pe_str (pa_cons (pe_disp (pps_cons pe_str (pe_tup (pa_cons (pe_lst (pa_cons (pv 3) pa_nil)) (pa_cons (pv 3) pa_nil))) pps_nil) (by rfl) (by rfl) (fun z => nomatch z) (by decide)) (pa_cons (pe_disp (pps_cons pe_str (pe_tup (pa_cons (pe_lst pa_nil) (pa_cons (pv 3) pa_nil))) pps_nil) (by rfl) (by rfl) (fun z => nomatch z) (by decide)) (pa_cons (pe_disp (pps_cons pe_int (pe_tup (pa_cons (pe_lst pa_nil) (pa_cons (pv 3) pa_nil))) pps_nil) (by rfl) (by rfl) (fun z => nomatch z) (by decide)) (pa_cons (pe_dispN pe_non (pe_tup (pa_cons (pe_lst pa_nil) (pa_cons (pv 3) pa_nil)))) pa_nil)))))))))))
      (pss_cons (ps_set (i := 2) sc_law_odd_parts.nd rfl (Or.inl rfl) (pe_op op_cat (pv 2) (pe_lst (pa_cons (pe_disp (pps_cons pe_str (pe_lst (pa_cons (pe_lst (pa_cons (pv 3) pa_nil)) (pa_cons (pv 3) pa_nil))) pps_nil) (by rfl) (by rfl) (fun z => nomatch z) (by decide)) (pa_cons (pe_disp (pps_cons pe_str (pe_tup (pa_cons (pe_lst (pa_cons (pv 3) pa_nil)) pa_nil)) pps_nil) (by rfl) (by rfl) (fun z => nomatch z) (by decide)) (pa_cons (pe_disp (pps_cons pe_str (pe_tup (pa_cons (pe_lst (pa_cons (pv 3) pa_nil)) (pa_cons (pv 3) (pa_cons (pv 3) pa_nil)))) pps_nil) (by rfl) (by rfl) (fun z => nomatch z) (by decide)) (pa_cons (pe_disp (pps_cons pe_str (pe_tup (pa_cons (pv 3) (pa_cons (pv 3) pa_nil))) pps_nil) (by rfl) (by rfl) (fun z => nomatch z) (by decide)) (pa_cons (pe_disp (pps_cons pe_str pe_non pps_nil) (by rfl) (by rfl) (fun z => nomatch z) (by decide)) pa_nil))))))))
      (pss_cons (ps_set (i := 2) sc_law_odd_parts.nd rfl (Or.inl rfl) (pe_op op_cat (pv 2) (pe_lst (pa_cons (pe_disp (pps_cons pe_str (pe_tup (pa_cons (pe_lst (pa_cons (pv 3) (pa_cons (pv 3) pa_nil))) (pa_cons (pv 3) pa_nil))) pps_nil) (by rfl) (by rfl) (fun z => nomatch z) (by decide)) (pa_cons (pe_disp (pps_cons pe_str (pe_tup (pa_cons (pe_lst (pa_cons (pv 4) pa_nil)) (pa_cons (pv 3) pa_nil))) pps_nil) (by rfl) (by rfl) (fun z => nomatch z) (by decide)) (pa_cons (pe_disp (pps_cons pe_str (pe_tup (pa_cons (pe_lst (pa_cons (pv 3) pa_nil)) (pa_cons (pv 4) pa_nil))) pps_nil) (by rfl) (by rfl) (fun z => nomatch z) (by decide)) (pa_cons (pe_disp (pps_cons pe_str (pe_tup (pa_cons (pe_disp (pps_cons (pv 3) pe_int pps_nil) (by rfl) (by rfl) (fun z => nomatch z) (by decide)) (pa_cons (pv 3) pa_nil))) pps_nil) (by rfl) (by rfl) (fun z => nomatch z) (by decide)) pa_nil)))))))
      (pss_cons (ps_set (i := 2) sc_law_odd_parts.nd rfl (Or.inl rfl) (pe_op op_cat (pv 2) (pe_lst (pa_cons (pe_disp (pps_cons pe_str (pe_tup (pa_cons (pe_lst (pa_cons (pv 3) pa_nil)) (pa_cons (pe_lst (pa_cons (pv 3) pa_nil)) pa_nil))) pps_nil) (by rfl) (by rfl) (fun z => nomatch z) (by decide)) (pa_cons (pe_callTy (call_dictP rfl) (by rfl) T.b_dict (by decide +kernel) (pa_cons (pe_lc (own := [("word", 5)]) (g := gName 5) (by rfl) sc_law_odd_parts.nd (pi_list (pe_lst (pa_cons pe_str (pa_cons pe_str (pa_cons pe_str (pa_cons pe_str pa_nil)))))) (blkOk_by (own := [("word", 5)]) (N := ["stream", "good", "some", "key", "bad", "word"]) (sc := defScope s_law_odd_parts) (by decide +kernel)) (fun _ _ _ _ _ => pg_name (i := 5) sc_law_odd_parts.nd rfl (Or.inl rfl)) (fun _ _ _ _ _ => pts_nil) (fun _ _ _ _ _ => (pe_tup (pa_cons (pv 5) (pa_cons (pe_tup (pa_cons (pe_lst (pa_cons (pv 3) pa_nil)) (pa_cons (pv 3) pa_nil))) pa_nil))))) pa_nil)) pa_nil)))))
      (pss_cons (ps_set (i := 2) sc_law_odd_parts.nd rfl (Or.inl rfl) (pe_op op_cat (pv 2) (pe_lst (pa_cons (pe_disp (pps_cons pe_str (pe_tup (pa_cons (pe_callTy (call_listS rfl) (by rfl) T.b_list (by decide +kernel) (pa_cons pe_str pa_nil)) (pa_cons (pv 3) pa_nil))) pps_nil) (by rfl) (by rfl) (fun z => nomatch z) (by decide)) (pa_cons (pe_disp (pps_cons pe_str (pe_tup (pa_cons (pe_lst (pa_cons (pv 3) pa_nil)) (pa_cons (pv 3) pa_nil))) (pps_cons pe_str (pe_tup (pa_cons (pe_lst (pa_cons (pv 4) pa_nil)) (pa_cons (pv 3) pa_nil))) pps_nil)) (by rfl) (by rfl) (fun z => nomatch z) (by decide)) pa_nil)))))
      (pss_one (ps_ret (pe_op op_cat (pv 2) (pe_lst (pa_cons (pe_disp (pps_cons pe_str (pe_tup (pa_cons (pe_lst (pa_cons (pv 3) pa_nil)) (pa_cons (pv 3) pa_nil))) (pps_cons pe_str (pe_tup (pa_cons (pe_lst pa_nil) (pa_cons (pv 3) pa_nil))) (pps_cons pe_str (pe_tup (pa_cons (pe_lst (pa_cons (pe_lst (pa_cons (pv 3) pa_nil)) pa_nil)) (pa_cons (pv 3) pa_nil))) pps_nil))) (by rfl) (by rfl) (fun z => nomatch z) (by decide)) pa_nil))))))))))), ?_⟩
    refine ⟨_, rfl, _, rfl, use_choose st (SqL.of el) lp (by rw [List.length_map]; exact l0) (by rw [List.length_map]; exact l9) fun v H1 hv st1 s1 => ?_⟩
    obtain ⟨z, hz, rfl⟩ := List.mem_map.mp hv
    have wz := wd z hz
    refine ⟨_, rfl, p, rfl, st1, fun y H1' hb1 st1' s2 => ⟨by show 2 ≤ sizeLine; decide, fun tp ntp => ?_⟩⟩
    have s02 := (s1.trans s2).new (o := .tup [.str z, y]) ntp
    have st2 := st1'.new (o := .tup [.str z, y]) ntp
    have hb := hb1.keep (same_new (o := .tup [.str z, y]) ntp)
    refine ⟨tp, _, rfl, SqT.of upd_same, rfl, _, _, rfl, _, _, rfl, rfl, ?_⟩
    generalize upd H1' tp (.tup [.str z, y]) = H2 at *
    let sg : Option V → L2.St := fun so => [some (.ref p), some (.ref l), so, some (.str z), some y, none]
    have PR : Mono (fun H v => RolesIs P w K H v false) := mono_roles
    have g3 : ∀ so, Gv H2 (sg so) (tVar 3) (fun _ v => v = .str z) := fun so => gv_v rfl mono_eq fun _ _ => rfl
    have g4 : ∀ so, Gv H2 (sg so) (tVar 4) (BadV K) := fun so => gv_v rfl mono_bad fun _ s => hb.keep s
    have w3 : ∀ so, Gv H2 (sg so) (tVar 3) (fun H v => WordIs K H v true) := fun so => gv_v rfl mono_word fun _ _ => .inl ⟨z, rfl, wz.ok.1, wz.ok.2.symm⟩
    have w4 : ∀ so, Gv H2 (sg so) (tVar 4) (fun H v => WordIs K H v false) := fun so => gv_v rfl mono_word fun _ s => (hb.keep s).wd
    have mem1 : ∀ {H : Hp} {a : V}, ItOk K H a → ∀ x ∈ [a], ItOk K H x := fun h x hx => by rw [List.mem_singleton.mp hx]; exact h
    have mem2 : ∀ {H : Hp} {a b : V}, ItOk K H a → ItOk K H b → ∀ x ∈ [a, b], ItOk K H x := fun h1 h2 x hx => (List.mem_cons.mp hx).elim (fun e => e ▸ h1) fun hx => mem1 h2 x hx
    have kl : ∀ {so : Option V} {t : TA} {Ps : List (Hp → V → Prop)} {fl : Bool}, GvA H2 (sg so) t Ps → Ps.length ≤ 100 → (∀ H vs, Same H2 H → Paired (fun v P => P H v) vs Ps → (∀ x ∈ vs, ItOk K H x) ∧ keysB vs 8 = fl) → Gv H2 (sg so) (tLst t) (fun H v => KeysIs K H v 8 fl) := fun g few kk => gv_lst mono_keys g (Nat.le_trans few (by decide)) fun H q vs s e h => by
      obtain ⟨its, kb⟩ := kk H vs s h
      have z1 := keys_lst (K := K) (m := 8) e (by rw [par_len h]; omega) its
      rw [kb] at z1; exact z1
    have k0 : ∀ so, Gv H2 (sg so) (tLst tNil) (fun H v => KeysIs K H v 8 true) := fun so => kl gva_nil (by simp) fun H vs s h => by cases h; exact ⟨(fun x hx => nomatch hx), rfl⟩
    have k1 : ∀ so, Gv H2 (sg so) (tLst (tCons (tVar 3) tNil)) (fun H v => KeysIs K H v 8 true) := fun so => kl (gva_cons (g3 so) gva_nil) (by simp) fun H vs s h => by
      cases h with | cons a r => cases r; subst a; exact ⟨mem1 (word_its wz), keysB_one wz.ok.2 (by decide)⟩
    have k33 : ∀ so, Gv H2 (sg so) (tLst (tCons (tVar 3) (tCons (tVar 3) tNil))) (fun H v => KeysIs K H v 8 false) := fun so => kl (gva_cons (g3 so) (gva_cons (g3 so) gva_nil)) (by simp) fun H vs s h => by
      cases h with | cons a r => cases r with | cons b r => cases r; subst a b; exact ⟨mem2 (word_its wz) (word_its wz), keysB_twice⟩
    have k4 : ∀ so, Gv H2 (sg so) (tLst (tCons (tVar 4) tNil)) (fun H v => KeysIs K H v 8 false) := fun so => kl (gva_cons (g4 so) gva_nil) (by simp) fun H vs s h => by
      cases h with | cons a r => cases r; exact ⟨mem1 a.it, keysB_bad List.mem_cons_self a.fl⟩
    have kk : ∀ so, Gv H2 (sg so) (tLst (tCons (tLst (tCons (tVar 3) tNil)) tNil)) (fun H v => KeysIs K H v 8 false) := fun so => kl (gva_cons (P := fun H v => ItOk K H v ∧ flagV v = false) (gv_lst (fun _ _ _ s h => ⟨h.1.keep s, h.2⟩) (gva_cons (g3 so) gva_nil) (by simp) fun H q vs s e h => ⟨.inr ⟨_, fun _ s2 => .base (.lst (s2 _ _ e)), kit_ty (by decide +kernel), fun _ q => nomatch q⟩, rfl⟩) gva_nil) (by simp) fun H vs s h => by
      cases h with | cons a r => cases r; exact ⟨mem1 a.1, keysB_bad List.mem_cons_self a.2⟩
    have u1 : ∀ so, Gv H2 (sg so) (tTup (tCons (tLst (tCons (tVar 3) tNil)) (tCons (tVar 3) tNil))) (fun H v => UseIs K H v true) := fun so => gv_use2 (k1 so) (w3 so) rfl
    have u0 : ∀ so, Gv H2 (sg so) (tTup (tCons (tLst tNil) (tCons (tVar 3) tNil))) (fun H v => UseIs K H v true) := fun so => gv_use2 (k0 so) (w3 so) rfl
    have sa : ("a" : Str).length ≤ sizeLine := by decide +kernel
    have wa : wordB "a" = true := by decide +kernel
    -- a dict of one role
    have r1 : ∀ {so : Option V} {tv : TE}, Gv H2 (sg so) tv (fun H v => UseIs K H v false) → Gv H2 (sg so) (tDisp [(tC (.str "a"), tv)]) (fun H v => RolesIs P w K H v false) := fun g => gv_roles (gvp_cons sa g gvp_nil) (by simp) (by simp) (by simp) (by simp)
    dsimp only [tSeq, tAsg, gName, tRet]
    refine gvl_go (H0 := H2) (σ := sg none) (Ps := List.replicate 9 fun H v => RolesIs P w K H v false) ?_ (by simp) fun l1 xs1 H3 nl1 s3 e3 par1 => ?_
    · refine gva_cons (gv_c PR fun _ _ => roles_no (fun _ _ => .base .non) (kit_ty (by decide +kernel))) ?_
      refine gva_cons (gv_lst PR gva_nil (by simp) fun H q vs s e h => roles_no (fun _ s2 => .base (.lst (s2 _ _ e))) (kit_ty (by decide +kernel))) ?_
      refine gva_cons (gv_new (o := .dK []) PR (fun _ _ h => h) fun H q e => roles_len e (.inl (by decide))) ?_
      refine gva_cons (gv_tup PR gva_nil (by simp) fun H q vs s e h => roles_no (fun _ s2 => .base (.tup (s2 _ _ e))) (kit_ty (by decide +kernel))) ?_
      refine gva_cons (gv_c PR fun _ _ => roles_no (fun _ _ => .base (.str _)) (kit_ty (by decide +kernel))) ?_
      refine gva_cons (gv_roles (gvp_cons (by decide +kernel) (u1 none) gvp_nil) (by simp) (by simp) (by simp) (by rw [show wordB _ = false by decide +kernel]; rfl)) ?_
      refine gva_cons (gv_roles (gvp_cons (by decide +kernel) (u0 none) gvp_nil) (by simp) (by simp) (by simp) (by rw [show wordB _ = false by decide +kernel]; rfl)) ?_
      refine gva_cons (gv_roles (gvp_int (gv_any (u0 none)) gvp_nil) (by simp) (by simp) (by simp) rfl) ?_
      exact gva_cons (gv_none (gv_any (u0 none))) gva_nil
    refine add_go (σ := sg (some (.ref l1))) (P := fun H v => RolesIs P w K H v false) (n := 5) s3 rfl e3 (par_rep par1) (by rw [par_len par1]; simp) PR ?_ fun l2 xs2 H4 nl2 s4 e4 n2 f2 => ?_
    · refine gva_cons (r1 (gv_lst mono_use (gva_cons (gv_any (k1 _)) (gva_cons (gv_any (g3 _)) gva_nil)) (by simp) fun H q vs s e h => use_no (fun _ s2 => .base (.lst (s2 _ _ e))) (kit_ty (by decide +kernel)))) ?_
      refine gva_cons (r1 (gv_tup mono_use (gva_cons (gv_any (k1 _)) gva_nil) (by simp) fun H q vs s e h => use_len e (by rw [par_len h]; simp))) ?_
      refine gva_cons (r1 (gv_tup mono_use (gva_cons (gv_any (k1 _)) (gva_cons (gv_any (g3 _)) (gva_cons (gv_any (g3 _)) gva_nil))) (by simp) fun H q vs s e h => use_len e (by rw [par_len h]; simp))) ?_
      refine gva_cons (r1 (gv_use2 (fa := false) (gv_v rfl mono_keys fun _ _ => keys_no (fun _ _ => .base (.str z)) (kit_ty (by decide +kernel)) (kit_ty (by decide +kernel))) (w3 _) rfl)) ?_
      exact gva_cons (r1 (gv_c mono_use fun _ _ => use_no (fun _ _ => .base .non) (kit_ty (by decide +kernel)))) gva_nil
    have s24 := s3.trans s4
    refine add_go (σ := sg (some (.ref l2))) (P := fun H v => RolesIs P w K H v false) (n := 4) s24 rfl e4 f2 (by rw [n2, par_len par1]; simp) PR ?_ fun l3 xs3 H5 nl3 s5 e5 n3 f3 => ?_
    · refine gva_cons (r1 (gv_use2 (k33 _) (w3 _) rfl)) ?_
      refine gva_cons (r1 (gv_use2 (k4 _) (w3 _) rfl)) ?_
      refine gva_cons (r1 (gv_use2 (k1 _) (w4 _) rfl)) ?_
      exact gva_cons (r1 (gv_use2 (fa := false) ⟨mono_keys, fun M H Q s n q d nd => ⟨_, rfl, upd_same, [(.inr z, .int 1)], rfl, by simp, by
        rw [upd_upd]
        exact q _ _ (same_new nd) (keys_no (fun H' s' => .base (.dK (s' _ _ (hid_in upd_same (out_new n nd))))) (kit_ty (by decide +kernel)) (kit_ty (by decide +kernel)))⟩⟩ (w3 _) rfl)) gva_nil
    have s25 := s24.trans s5
    refine add_go (σ := sg (some (.ref l3))) (P := fun H v => RolesIs P w K H v false) (n := 2) s25 rfl e5 f3 (by rw [n3, n2, par_len par1]; simp) PR ?_ fun l4 xs4 H6 nl4 s6 e6 n4 f4 => ?_
    · refine gva_cons (r1 (gv_use2 (k1 _) (fu := false) (gv_lst mono_word (gva_cons (gv_any (g3 _)) gva_nil) (by simp) fun H q vs s e h => .inr ⟨rfl, _, fun _ s2 => .base (.lst (s2 _ _ e)), kit_ty (by decide +kernel)⟩) rfl)) ?_
      refine gva_cons ?_ gva_nil
      refine ⟨PR, fun M H Q s n q => ?_⟩
      refine ⟨by show 4 ≤ sizeLine; decide, fun li nli => ⟨li, rfl, ⟨abcd.map V.str, SqL.of upd_same⟩, fun D nD => ?_⟩⟩
      have sI := same_new (o := .lst (abcd.map V.str)) nli
      have eI : upd H li (.lst (abcd.map V.str)) li = some (.lst (abcd.map V.str)) := upd_same
      have nD' : upd H li (.lst (abcd.map V.str)) D = none := nD
      show Exists _
      change ∃ W : Nat → Nat → Hp → Prop, (∃ m, W 0 m (upd (upd H li (.lst (abcd.map V.str))) D (.lst []))) ∧ _
      revert sI eI nD'
      generalize upd H li (.lst (abcd.map V.str)) = HI
      intro sI eI nD'
      refine lc_list (K := K) (a := li) (xs := abcd.map V.str) (fun i H' => ∃ (ps : List Addr) (kvs : List (Key × V)), H' D = some (.lst (ps.map V.ref)) ∧ Same HI H' ∧ Paired (PrAt H' D) ps kvs ∧ kvs.map (·.1) = (abcd.take i).map Sum.inr) ⟨[], [], upd_same, same_new nD', .nil, rfl⟩ (fun i H' _ ⟨_, _, _, sL, _, _⟩ => SqL.of (sL _ _ eI)) ?_ ?_
      · rintro i x H' hx ⟨ps, kvs, eD, sL, pr, ek⟩
        obtain ⟨zi, ez, rfl⟩ := str_at hx
        have li4 : kvs.length ≤ 4 := by
          have z1 := congrArg List.length ek
          rw [List.length_map, List.length_map, List.length_take] at z1
          have : abcd.length = 4 := rfl
          omega
        have tk : abcd.take (i + 1) = abcd.take i ++ [zi] := by rw [List.take_succ, ez]; rfl
        refine ⟨rfl, yes_if ⟨_, rfl, _, rfl, by show 1 ≤ sizeLine; decide, fun a na => ⟨_, rfl, by show 2 ≤ sizeLine; decide, fun t nt => ⟨by show 2 ≤ sizeLine; decide, fun t2 nt2 => ?_⟩⟩⟩⟩
        have sa1 := same_new' (o := .tup [.ref a, .str z]) (same_new (o := .lst [.str z]) na) nt
        have t2D : t2 ≠ D := (ne_of_none (sa1 _ _ eD) nt2).symm
        have sa2 := same_new' (o := .tup [.str zi, .ref t]) sa1 nt2
        have e2 : upd (upd (upd H' a (.lst [.str z])) t (.tup [.ref a, .str z])) t2 (.tup [.str zi, .ref t]) t2 = some (.tup [.str zi, .ref t]) := upd_same
        generalize upd (upd (upd H' a (.lst [.str z])) t (.tup [.ref a, .str z])) t2 (.tup [.str zi, .ref t]) = H9 at *
        refine ⟨_, sa2 _ _ eD, by rw [List.length_map, pr_len pr, sizeLine_eq]; omega, ps ++ [t2], kvs ++ [(.inr zi, .ref t)], by rw [upd_same, List.map_append]; rfl, (fun q o e => by rw [upd_ne (ne_of_none e nD')]; exact sa2 _ _ (sL _ _ e)), pr_snoc (fun p kv h => ⟨by rw [upd_ne h.2]; exact sa2 _ _ h.1, h.2⟩) pr ⟨by rw [upd_ne t2D]; exact e2, t2D⟩, by rw [List.map_append, ek, tk, List.map_append]; rfl⟩
      · rintro H' ⟨ps, kvs, eD, sL, pr, ek⟩
        have ek4 : kvs.map (·.1) = abcd.map Sum.inr := ek
        have l4 : kvs.length = 4 := by rw [← List.length_map (f := (·.1)), ek4]; rfl
        refine ⟨D, ps, kvs, rfl, SqL.of eD, pr_imp (fun p kv h => SqT.of h.1) pr, fun r nr => ?_⟩
        have mk : mergeK [] kvs = kvs := by rw [mergeK_id kvs [] (by rw [List.nil_append, ek4]; decide +kernel), List.nil_append]
        rw [mk]
        have sF := sI.trans (same_new' (o := .dK kvs) sL nr)
        exact q _ _ sF (roles_len (hid_in upd_same fun z => n r z (sI.free (sL.free nr))) (.inr (by rw [l4]; decide)))
    have s26 := s25.trans s6
    refine add_go (σ := sg (some (.ref l4))) (P := fun H v => RolesIs P w K H v false) (n := 2) s26 rfl e6 f4 (by rw [n4, n3, n2, par_len par1]; simp) PR ?_ fun l5 xs5 H7 nl5 s7 e7 n5 f5 => ?_
    · refine gva_cons (r1 (gv_use2 (fa := false) (gv_new (o := .lst (("abcdefghi" : Str).cps.toList.map fun c => V.str ⟨#[c]⟩)) mono_keys (fun _ _ h => ⟨_, rfl, by decide +kernel, h⟩) fun H q e => by
        have z1 := keys_lst (K := K) (m := 8) e (by decide +kernel) (fun x hx => by
          obtain ⟨c, _, rfl⟩ := List.mem_map.mp hx
          exact .inl ⟨_, rfl, by show 1 ≤ sizeLine; decide⟩)
        rw [keysB_big (by decide +kernel)] at z1; exact z1) (w3 _) rfl)) ?_
      exact gva_cons (gv_roles (gvp_cons sa (u1 _) (gvp_cons (by decide +kernel) (gv_use2 (k4 _) (w3 _) rfl) gvp_nil)) (by decide +kernel) (by simp) (by simp) (by simp)) gva_nil
    have s27 := s26.trans s7
    refine add_go (σ := sg (some (.ref l5))) (P := fun H v => RolesIs P w K H v false) (n := 1) s27 rfl e7 f5 (by rw [n5, n4, n3, n2, par_len par1]; simp) PR ?_ fun l6 xs6 H8 nl6 s8 e8 n6 f6 => ?_
    · exact gva_cons (gv_roles (gvp_cons sa (u1 _) (gvp_cons (by decide +kernel) (u0 _) (gvp_cons (by decide +kernel) (gv_use2 (kk _) (w3 _) rfl) gvp_nil))) (by decide +kernel) (by simp) (by simp) (by simp)) gva_nil
    have s28 := s27.trans s8
    exact k l6 xs6 _ (s02.free (s27.free nl6) (st2.ne (s27.free nl6))) e8 (by rw [n6, n5, n4, n3, n2, par_len par1]; simp) f6 (st2.keep s28) (s02.trans (SameB.of s28))
theorem ok_oddp (D : DefK K mg "_law_odd_parts" s_law_odd_parts) (T : Txt K mg) (G_law_choose : Cal P w K mg base CX0 2 "_law_choose" (spChoose K)) (G_law_bad : Cal P w K mg base CX0 3 "_law_bad" (spBad K)) : Cal P w K mg base CX0 4 "_law_odd_parts" (spOddP P w K) := ok_oddp_ D T (chI G_law_choose) G_law_bad
end

end K07

namespace K07
open PySem PySem.Spec PyProof.Rows L2 Jg
local macro_rules | `(tactic| walk_at "rd1") => `(tactic| (first
  | refine ⟨_, rfl, ?_⟩
  | refine ⟨_, _, rfl, rfl, ?_⟩
  | refine ⟨_, _, rfl, ?_⟩
  | refine ⟨rfl, ?_⟩
  | (refine ⟨show (0 : Int) < _ by omega, ?_⟩)
  | (refine ⟨Or.inl ⟨by omega, by omega⟩, ?_⟩)
  | (refine ⟨Or.inr ⟨by omega, by omega⟩, ?_⟩)
  | (refine ⟨(⟨by decide, by decide, by decide⟩ : CPow _ _), ?_⟩)
  | refine Or.inl ⟨_, rfl, ?_⟩
  | refine Or.inr ⟨_, rfl, ?_⟩
  | fail "rd"))
local macro_rules | `(tactic| walk_at "rd") => `(tactic| repeat' walk_at "rd1")


/-! ### the law -/
def spLaw (K : PySem.W.Frag) : Sp := fun vs H Q _ => ∃ (a : Addr) (ns : List Int), vs = [.ref a] ∧ SqL K H a (ns.map V.int) ∧ ns.length ≤ 63 ∧ ∀ H', Q (.bl true) H'
theorem keysB_ok {ks : List Str} {m : Int} (nd : ks.Nodup) (le : (ks.length : Int) ≤ m) (wd : ∀ k ∈ ks, wordB k = true) : keysB (ks.map V.str) m = true := by
  unfold keysB
  have e : (ks.map V.str).map txV = ks := by rw [List.map_map]; exact (List.map_congr_left fun _ _ => rfl).trans (List.map_id ks)
  rw [e, List.length_map, (once_perm nd).length_eq, decide_eq_true rfl, decide_eq_false (by omega)]
  have z : (ks.map V.str).all flagV = true := List.all_eq_true.mpr fun x hx => by
    obtain ⟨k, hk, rfl⟩ := List.mem_map.mp hx
    exact wd k hk
  rw [z]; rfl
def zz : Str := "zzzzzzzz"
def rowsG (t1 t2 t3 lw e0 c1 : Addr) (w0 w1 : Str) (r : List Str) : List Row := [⟨"a", t1, lw, true, w0 :: w1 :: r, w0⟩, ⟨"b", t2, e0, false, [], w1⟩, ⟨"c", t3, c1, true, [w0], zz⟩]
structure Gvn (p : Addr) (H : Hp) (d lw lv t1 t2 t3 e0 c1 : Addr) (w0 w1 : Str) (r v : List Str) : Prop where
  ed : H d = some (.dK (dictOf (rowsG t1 t2 t3 lw e0 c1 w0 w1 r)))
  a1 : H t1 = some (.tup [.ref lw, .str w0])
  ew : H lw = some (.lst ((w0 :: w1 :: r).map V.str))
  a2 : H t2 = some (.tup [.ref e0, .str w1])
  ee : H e0 = some (.tup [])
  a3 : H t3 = some (.tup [.ref c1, .str zz])
  ec : H c1 = some (.lst [.str w0])
  ev : H lv = some (.lst (v.map V.str))
  lp : lw ≠ p
  st : StA H p
theorem Gvn.keep {p : Addr} {H H' : Hp} {d lw lv t1 t2 t3 e0 c1 : Addr} {w0 w1 : Str} {r v : List Str} (g : Gvn p H d lw lv t1 t2 t3 e0 c1 w0 w1 r v) (s : SameB p H H') (st : StA H' p) : Gvn p H' d lw lv t1 t2 t3 e0 c1 w0 w1 r v := by
  have no : ∀ {q : Addr} {o : HO}, H q = some o → (∀ a b : Int, o ≠ .lst [.int a, .int b]) → H' q = some o := fun {q o} e n => s _ _ e fun z => by
    obtain ⟨a, b, e2, _⟩ := g.st
    rw [z, e2] at e
    exact n a b (Option.some.inj e).symm
  exact ⟨no g.ed (fun _ _ z => nomatch z), no g.a1 (fun _ _ z => nomatch z), no g.ew (fun _ _ z => by injection z with z; injection z with z1 z2; cases z1), no g.a2 (fun _ _ z => nomatch z), no g.ee (fun _ _ z => nomatch z), no g.a3 (fun _ _ z => nomatch z), no g.ec (fun _ _ z => by injection z with z; injection z with z1 z2; cases z1), no g.ev (fun _ _ z => by
    injection z with z
    cases v with
    | nil => cases z
    | cons x r => injection z with z1 z2; cases z1), g.lp, st⟩
structure Wds (ws : List Str) : Prop where
  wd : ∀ z ∈ ws, Wd z
  nd : ws.Nodup
theorem Wds.keys {ws : List Str} (h : Wds ws) {m : Int} (le : (ws.length : Int) ≤ m) : keysB (ws.map V.str) m = true := keysB_ok h.nd le fun k hk => (h.wd k hk).ok.2
theorem zz_ok : zz.length ≤ sizeLine ∧ wordB zz = true := ⟨by decide +kernel, by decide +kernel⟩
theorem Gvn.rows {K : PySem.W.Frag} {p : Addr} {H : Hp} {d lw lv t1 t2 t3 e0 c1 : Addr} {w0 w1 : Str} {r v : List Str} (g : Gvn p H d lw lv t1 t2 t3 e0 c1 w0 w1 r v) (W : Wds (w0 :: w1 :: r)) (l8 : r.length ≤ 6) :
    ∀ q ∈ rowsG t1 t2 t3 lw e0 c1 w0 w1 r, RowOk K d H q := by
  have wd := fun z h => (W.wd z h).ok.1
  have nd : ∀ {q : Addr} {o : HO}, H q = some o → (∀ kvs, o ≠ .dK kvs) → q ≠ d := fun {q o} e n z => by
    rw [z, g.ed] at e
    exact n _ (Option.some.inj e).symm
  intro q hq
  simp only [rowsG, List.mem_cons, List.not_mem_nil, or_false] at hq
  rcases hq with rfl | rfl | rfl
  · exact ⟨g.a1, nd g.a1 (fun _ z => nomatch z), nd g.ew (fun _ z => nomatch z), SqL.of g.ew, fun H' s => .base (.lst (s _ _ g.ew (nd g.ew (fun _ z => nomatch z)))), by show r.length + 1 + 1 ≤ 500; omega, wd, ⟨(by decide +kernel : ("a" : Str).length ≤ sizeLine), wd _ List.mem_cons_self⟩⟩
  · exact ⟨g.a2, nd g.a2 (fun _ z => nomatch z), nd g.ee (fun _ z => nomatch z), SqT.of g.ee, fun H' s => .base (.tup (s _ _ g.ee (nd g.ee (fun _ z => nomatch z)))), by show 0 ≤ 500; decide, (fun _ h => nomatch h), ⟨(by decide +kernel : ("b" : Str).length ≤ sizeLine), wd _ (List.mem_cons_of_mem _ List.mem_cons_self)⟩⟩
  · exact ⟨g.a3, nd g.a3 (fun _ z => nomatch z), nd g.ec (fun _ z => nomatch z), SqL.of g.ec, fun H' s => .base (.lst (s _ _ g.ec (nd g.ec (fun _ z => nomatch z)))), by show 1 ≤ 500; decide, (fun k h => by rw [List.mem_singleton.mp h]; exact wd _ List.mem_cons_self), ⟨(by decide +kernel : ("c" : Str).length ≤ sizeLine), zz_ok.1⟩⟩
theorem rowsG_b {t1 t2 t3 lw e0 c1 : Addr} {w0 w1 : Str} {r : List Str} (W : Wds (w0 :: w1 :: r)) (l8 : r.length ≤ 6) : (rowsG t1 t2 t3 lw e0 c1 w0 w1 r).all rowB = true := by
  have wd := fun z h => (W.wd z h).ok.2
  refine List.all_eq_true.mpr fun q hq => ?_
  simp only [rowsG, List.mem_cons, List.not_mem_nil, or_false] at hq
  rcases hq with rfl | rfl | rfl
  · show (wordB "a" && (keysB ((w0 :: w1 :: r).map V.str) 8 && wordB w0)) = true
    rw [show wordB "a" = true by decide +kernel, W.keys (by show ((r.length + 1 + 1 : Nat) : Int) ≤ 8; omega), wd w0 List.mem_cons_self]; rfl
  · show (wordB "b" && (keysB [] 8 && wordB w1)) = true
    rw [show wordB "b" = true by decide +kernel, show keysB [] 8 = true from rfl, wd w1 (List.mem_cons_of_mem _ List.mem_cons_self)]; rfl
  · show (wordB "c" && (keysB [.str w0] 8 && wordB zz)) = true
    rw [show wordB "c" = true by decide +kernel, keysB_one (wd w0 List.mem_cons_self) (by decide), zz_ok.2]; rfl
theorem Gvn.roles {P : Program} {w : World} {K : PySem.W.Frag} {p : Addr} {H : Hp} {d lw lv t1 t2 t3 e0 c1 : Addr} {w0 w1 : Str} {r v : List Str} (g : Gvn p H d lw lv t1 t2 t3 e0 c1 w0 w1 r v) (W : Wds (w0 :: w1 :: r)) (l8 : r.length ≤ 6) : RolesIs P w K H (.ref d) true := by
  rw [← rowsG_b (t1 := t1) (t2 := t2) (t3 := t3) (lw := lw) (e0 := e0) (c1 := c1) W l8]
  exact roles_is g.ed (by show 1 ≤ 3; decide) (by show 3 ≤ 3; decide) (by show (["a", "b", "c"] : List Str).Nodup; decide +kernel) (g.rows W l8)
theorem kl_lst {K : PySem.W.Frag} {H : Hp} {l : Addr} {ws : List Str} (e : H l = some (.lst (ws.map V.str))) (few : ws.length ≤ 500) (W : ∀ z ∈ ws, Wd z) : KLOk K H ⟨l, true, ws⟩ := ⟨SqL.of e, fun H' s => .base (.lst (s _ _ e)), few, fun k hk => (W k hk).ok.1⟩
theorem kl_tup {K : PySem.W.Frag} {H : Hp} {l : Addr} {ws : List Str} (e : H l = some (.tup (ws.map V.str))) (few : ws.length ≤ 500) (W : ∀ z ∈ ws, Wd z) : KLOk K H ⟨l, false, ws⟩ := ⟨SqT.of e, fun H' s => .base (.tup (s _ _ e)), few, fun k hk => (W k hk).ok.1⟩
theorem Gvn.right {K : PySem.W.Frag} {p : Addr} {H : Hp} {d lw lv t1 t2 t3 e0 c1 : Addr} {w0 w1 : Str} {r v : List Str} (g : Gvn p H d lw lv t1 t2 t3 e0 c1 w0 w1 r v) (W : Wds (w0 :: w1 :: r)) (l8 : r.length ≤ 6) {kv ks : KL} {n : Int} (n0 : 0 ≤ n) (n4 : n ≤ 4)
    (hv : KLOk K H kv) (hvb : keysB (kv.ks.map V.str) 4 = true) (hs : KLOk K H ks) (hsb : keysB (ks.ks.map V.str) 4 = true) : Right K H (.ref d) (.ref kv.a) (.int n) (.ref ks.a) (rowsG t1 t2 t3 lw e0 c1 w0 w1 r) kv n (some ks) :=
  ⟨⟨d, rfl, g.ed, g.rows W l8⟩, by show 1 ≤ 3; decide, by show 3 ≤ 3; decide, by show (["a", "b", "c"] : List Str).Nodup; decide +kernel, rowsG_b W l8, ⟨rfl, hv, hvb⟩, ⟨rfl, n0, n4⟩, .inr ⟨ks, rfl, rfl, hs, hsb⟩⟩
def lit (z : Str) : PyData := .list [.str z, .bool true, .bool false]
theorem ne_lit {K : PySem.W.Frag} {H : Hp} {l l2 : Addr} {z : Str} {Q : VK} (e : H l = some (.lst [.str z, .bl true, .bl false])) (e2 : H l2 = some (.lst [.str z, .bl true, .bl false])) (sh : SeqAt.shaped (lit z) = true) (eq : PyData.eqv (lit z) (lit z) = true) (q : Q (.bl false) H) : rNeD K (.ref l) (.ref l2) H Q :=
  ⟨lit z, lit z, .lst (SqL.of e) (.cons (.str _) (.cons (.bl _) (.cons (.bl _) .nil))), .lst (SqL.of e2) (.cons (.str _) (.cons (.bl _) (.cons (.bl _) .nil))), sh, sh, by rw [eq]; exact q⟩
section
variable {P : Program} {w : World} {K : PySem.W.Frag} {mg : Str → Option Value} {base : Heap} {C CI CG CP : Addr} {st : Stmt}
abbrev s_law : Stmt := top 30
theorem sc_law : FnScope ["script", "k", "stream", "words", "odd", "parts", "vouch"] ["script"] (defScope s_law) := ⟨rfl, rfl, rfl, by decide +kernel, rfl, by decide +kernel, by decide +kernel⟩
theorem body_law (T : Txt K mg) (G_law_stream : Cal P w K mg base CX0 1 "_law_stream" (spStream K)) (G_law_words : Cal P w K mg base CX0 3 "_law_words" spWords) (G_law_told_error : Cal P w K mg base CX0 9 "_law_told_error" (spTold P w K)) (G_law_due : Cal P w K mg base CX0 1 "_law_due" spDue)
    (G_law_odd_parts : Cal P w K mg base CX0 4 "_law_odd_parts" (spOddP P w K)) (G_law_odd_keys : Cal P w K mg base CX0 4 "_law_odd_keys" (spOddK K))
    (ff : Addr) (cdv : Value) (A : Around) (outer : List Env) (s : Shared) (H : Hp) (vs : List V) (Q : VK) (E : XK) (hr : Room 10 (A.deeper (envOfC "law" (defScope s_law) s.heap.objs.size ff cdv))) (h : spLaw K vs H Q E) :
    ∃ t, PSs (cxOf CX0 P w K mg base ["script", "k", "stream", "words", "odd", "parts", "vouch"] "law" (defScope s_law) ff cdv A outer s H E).nox (defBody s_law) t ∧ t { nx := fun _ H' => Q .non H', rt := Q } (start ["script", "k", "stream", "words", "odd", "parts", "vouch"] vs) H := by
  obtain ⟨a, ns, rfl, hS, hl, k⟩ := h
  have hu : (A.deeper (envOfC "law" (defScope s_law) s.heap.objs.size ff cdv)).units + 64 < cLine := hr.units
  refine ⟨_, (pss_cons (ps_for PassesOwn.never rfl (pi_range1 (by rfl) T.b_range (pa_cons (pe_callB (call_max2 rfl) (by rfl) T.b_max (by decide +kernel) (pa_cons pe_int (pa_cons (pe_callB (call_min2 rfl) (by rfl) T.b_min (by decide +kernel) (pa_cons pe_int (pa_cons (pe_callB call_len_seq (by rfl) T.b_len (by decide +kernel) (pa_cons (pv 0) pa_nil)) pa_nil))) pa_nil))) pa_nil)) (pg_name (i := 1) sc_law.nd rfl (Or.inl rfl)) (pss_cons (ps_set (i := 2) sc_law.nd rfl (Or.inl rfl) (pe_c G_law_stream hr (by decide) rfl (pa_cons (pv 0) (pa_cons (pv 1) pa_nil))))
      (pss_cons (ps_set (i := 3) sc_law.nd rfl (Or.inl rfl) (pe_c G_law_words hr (by decide) rfl (pa_cons (pv 2) (pa_cons pe_int pa_nil))))
      (pss_cons (ps_par (i := 5) (j := 6) (by rfl) sc_law.nd rfl rfl (by decide) rfl rfl (pa_cons (pe_disp (pps_cons pe_str (pe_tup (pa_cons (pv 3) (pa_cons (pe_ix (r := rIxL K) ix_list (pv 3) pe_int (fun _ _ => rfl)) pa_nil))) (pps_cons pe_str (pe_tup (pa_cons (pe_tup pa_nil) (pa_cons (pe_ix (r := rIxL K) ix_list (pv 3) pe_int (fun _ _ => rfl)) pa_nil))) (pps_cons pe_str (pe_tup (pa_cons (pe_slice sl_list (pv 3) po_none (po_some pe_int)) (pa_cons pe_str pa_nil))) pps_nil))) (by rfl) (by rfl) (fun z => nomatch z) (by decide)) (pa_cons (pe_slice sl_list (pv 3) po_none (po_some pe_int)) pa_nil)) (by rfl))
      (pss_cons (ps_if (PW.pt (pw_or (pt_cmpR op_ne (pe_c G_law_told_error hr (by decide) rfl (pa_cons (pv 5) (pa_cons (pv 6) (pa_cons pe_int (pa_cons (pe_callTy call_tuple_of (by rfl) T.b_tuple (by decide +kernel) (pa_cons (pe_slice sl_list (pv 3) (po_some pe_int) po_none) pa_nil)) pa_nil))))) pe_str (nomark _)) (pw_or1 (pt_cmpR op_ne (pe_c G_law_told_error hr (by decide) rfl (pa_cons (pv 5) (pa_cons (pe_lst pa_nil) (pa_cons pe_int (pa_cons (pe_lst pa_nil) pa_nil))))) pe_str (nomark _))))) (pss_one (ps_ret pe_bl)) pss_nil)
      (pss_cons (ps_for PassesOwn.never rfl (pi_list (pe_c G_law_odd_parts hr (by decide) rfl (pa_cons (pv 2) (pa_cons (pv 3) pa_nil)))) (pg_name (i := 4) sc_law.nd rfl (Or.inl rfl)) (pss_cons (ps_if (pt_cmpR (op_neD hu) (pe_c G_law_told_error hr (by decide) rfl (pa_cons (pv 4) (pa_cons (pv 6) (pa_cons pe_int (pa_cons pe_non pa_nil))))) (pe_c G_law_due hr (by decide) rfl (pa_cons pe_str pa_nil)) (nomark _)) (pss_one (ps_ret pe_bl)) pss_nil)
      (pss_one (ps_if (pt_cmpR (op_neD hu) (pe_c G_law_told_error hr (by decide) rfl (pa_cons (pv 4) (pa_cons pe_non (pa_cons (pe_un un_neg pe_int) (pa_cons pe_int pa_nil))))) (pe_c G_law_due hr (by decide) rfl (pa_cons pe_str pa_nil)) (nomark _)) (pss_one (ps_ret pe_bl)) pss_nil))))
      (pss_cons (ps_for PassesOwn.never rfl (pi_list (pe_op op_cat (pe_c G_law_odd_keys hr (by decide) rfl (pa_cons (pv 2) (pa_cons (pv 3) pa_nil))) (pe_lst (pa_cons pe_non pa_nil)))) (pg_name (i := 4) sc_law.nd rfl (Or.inl rfl)) (pss_cons (ps_if (pt_cmpR (op_neD hu) (pe_c G_law_told_error hr (by decide) rfl (pa_cons (pv 5) (pa_cons (pv 4) (pa_cons pe_int (pa_cons pe_non pa_nil))))) (pe_c G_law_due hr (by decide) rfl (pa_cons pe_str pa_nil)) (nomark _)) (pss_one (ps_ret pe_bl)) pss_nil)
      (pss_one (ps_if (pt_cmpR (op_neD hu) (pe_c G_law_told_error hr (by decide) rfl (pa_cons (pv 5) (pa_cons (pv 4) (pa_cons pe_non (pa_cons (pv 4) pa_nil))))) (pe_c G_law_due hr (by decide) rfl (pa_cons pe_str pa_nil)) (nomark _)) (pss_one (ps_ret pe_bl)) pss_nil))))
      (pss_cons (ps_for PassesOwn.never rfl (pi_list (pe_lst (pa_cons (pe_un un_neg pe_int) (pa_cons pe_int (pa_cons pe_non (pa_cons pe_bl (pa_cons pe_str (pa_cons (pe_lst (pa_cons pe_int pa_nil)) (pa_cons (pe_op op_pow pe_int pe_int) pa_nil))))))))) (pg_name (i := 4) sc_law.nd rfl (Or.inl rfl)) (pss_cons (ps_if (pt_cmpR (op_neD hu) (pe_c G_law_told_error hr (by decide) rfl (pa_cons (pv 5) (pa_cons (pv 6) (pa_cons (pv 4) (pa_cons pe_non pa_nil))))) (pe_c G_law_due hr (by decide) rfl (pa_cons pe_str pa_nil)) (nomark _)) (pss_one (ps_ret pe_bl)) pss_nil)
      (pss_one (ps_if (pt_cmpR (op_neD hu) (pe_c G_law_told_error hr (by decide) rfl (pa_cons (pv 5) (pa_cons (pv 6) (pa_cons (pv 4) (pa_cons pe_int pa_nil))))) (pe_c G_law_due hr (by decide) rfl (pa_cons pe_str pa_nil)) (nomark _)) (pss_one (ps_ret pe_bl)) pss_nil))))
      (pss_one (ps_for PassesOwn.never rfl (pi_list (pe_c G_law_odd_keys hr (by decide) rfl (pa_cons (pv 2) (pa_cons (pv 3) pa_nil)))) (pg_name (i := 4) sc_law.nd rfl (Or.inl rfl)) (pss_one (ps_if (pt_cmpR (op_neD hu) (pe_c G_law_told_error hr (by decide) rfl (pa_cons (pv 5) (pa_cons (pv 6) (pa_cons pe_int (pa_cons (pv 4) pa_nil))))) (pe_c G_law_due hr (by decide) rfl (pa_cons pe_str pa_nil)) (nomark _)) (pss_one (ps_ret pe_bl)) pss_nil))))))))))))
      (pss_one (ps_ret pe_bl))), ?_⟩
  refine ⟨_, rfl, a, _, rfl, .inl hS, _, _, rfl, _, _, rfl, _, rfl, by split <;> split <;> omega, by rw [List.length_map]; split <;> split <;> omega, ?_⟩
  have tn : ∀ i : Nat, i < (if (if ((ns.map V.int).length : Int) < 8 then ((ns.map V.int).length : Int) else 8) > 1 then (if ((ns.map V.int).length : Int) < 8 then ((ns.map V.int).length : Int) else 8) else 1).toNat → i ≤ 1000 := by
    intro i hi
    rw [List.length_map] at hi
    split at hi <;> split at hi <;> omega
  refine for_range (lo := 0) (fun i sg H' => ∃ v1 v2 v3 v4 v5 v6 : Option V, sg = [some (.ref a), v1, v2, v3, v4, v5, v6] ∧ Same H H') ⟨_, _, _, _, _, _, rfl, .refl H⟩ ?_ ?_
  · rintro i sg H1 hi ⟨v1, v2, v3, v4, v5, v6, rfl, s1⟩
    have hk := tn i hi
    clear tn hi
    have ei : (0 : Int) + (i : Nat) = ((i : Nat) : Int) := by omega
    rw [ei]
    refine ⟨_, rfl, _, rfl, a, ns, i, rfl, s1.seq hS, hk, fun p x y np hx => ?_⟩
    have npz : H p = none := s1.free np
    have sA : Same H (upd H1 p (.lst [.int x, .int y])) := same_new' s1 np
    have stA : StA (upd H1 p (.lst [.int x, .int y])) p := ⟨x, y, upd_same, hx⟩
    generalize upd H1 p (.lst [.int x, .int y]) = HA at *
    refine ⟨_, rfl, p, 8, rfl, by decide, by decide, stA, fun lw ws HB nlw lwp wl wwd wn ew stB sB => ?_⟩
    obtain ⟨w0, w1, w2, w3, w4, w5, w6, w7, rfl⟩ : ∃ w0 w1 w2 w3 w4 w5 w6 w7, ws = [w0, w1, w2, w3, w4, w5, w6, w7] := by
      match ws, wl with
      | [w0, w1, w2, w3, w4, w5, w6, w7], wl => exact ⟨_, _, _, _, _, _, _, _, rfl⟩
    have W : Wds [w0, w1, w2, w3, w4, w5, w6, w7] := ⟨wwd, wn⟩
    have sHB : Same H HB := SameB.out sA sB npz
    refine fun d nd => ?_
    have b1 := same_new (o := .dK []) nd
    have d1 : upd HB d (.dK []) d = some (.dK []) := upd_same
    refine ⟨_, rfl, _, rfl, lw, _, 0, _, rfl, rfl, SqL.of (b1 _ _ ew), atI_nat (j := 0) rfl, by show 2 ≤ sizeLine; decide, fun t1 nt1 => ?_⟩
    have b2 := same_new' (o := .tup [.ref lw, .str w0]) b1 nt1
    have d2 := same_new (o := .tup [.ref lw, .str w0]) nt1 _ _ d1
    have x1 : upd (upd HB d (.dK [])) t1 (.tup [.ref lw, .str w0]) t1 = _ := upd_same
    refine ⟨by show 0 ≤ sizeLine; decide, fun e0 ne0 => ?_⟩
    have b3 := same_new (o := .tup []) ne0
    have x3 : upd _ e0 (.tup []) e0 = _ := upd_same (H := upd (upd HB d (.dK [])) t1 (.tup [.ref lw, .str w0]))
    refine ⟨_, rfl, lw, _, 1, _, rfl, rfl, SqL.of (b3 _ _ (b2 _ _ ew)), atI_nat (j := 1) rfl, by show 2 ≤ sizeLine; decide, fun t2 nt2 => ?_⟩
    have b4 := same_new (o := .tup [.ref e0, .str w1]) nt2
    have x4 : upd _ t2 (.tup [.ref e0, .str w1]) t2 = _ := upd_same (H := upd (upd (upd HB d (.dK [])) t1 (.tup [.ref lw, .str w0])) e0 (.tup []))
    refine ⟨_, rfl, _, rfl, lw, _, rfl, SqL.of (b4 _ _ (b3 _ _ (b2 _ _ ew))), fun c1 nc1 => ?_⟩
    rw [show cutV ([w0, w1, w2, w3, w4, w5, w6, w7].map V.str) none (some 1) = [.str w0] from rfl]
    refine ⟨by show 2 ≤ sizeLine; decide, fun t3 nt3 => ?_⟩
    rw [show V.str "zzzzzzzz" = V.str zz from rfl]
    have b5 := same_new (o := .lst [.str w0]) nc1
    have b6 := same_new (o := .tup [.ref c1, .str zz]) nt3
    have b15 := ((same_new (o := .tup [.ref lw, .str w0]) nt1).trans b3).trans (b4.trans b5)
    have b16 := b15.trans b6
    refine ⟨b16 _ _ d1, [(.inr "a", .ref t1), (.inr "b", .ref t2), (.inr "c", .ref t3)], rfl, by show 3 ≤ 15; decide, ?_⟩
    have mk : mergeK [] [((.inr "a" : Key), V.ref t1), (.inr "b", .ref t2), (.inr "c", .ref t3)] = dictOf (rowsG t1 t2 t3 lw e0 c1 w0 w1 [w2, w3, w4, w5, w6, w7]) := by
      rw [mergeK_id _ [] (by show ([Sum.inr "a", Sum.inr "b", Sum.inr "c"] : List Key).Nodup; decide +kernel), List.nil_append]; rfl
    rw [mk]
    have f1 := (b3.trans (b4.trans (b5.trans b6))) _ _ x1
    have f3 := (b4.trans (b5.trans b6)) _ _ x3
    have f4 := (b5.trans b6) _ _ x4
    have f5 := b6 c1 _ upd_same
    have f6 := upd_same (H := upd (upd (upd (upd (upd HB d (.dK [])) t1 (.tup [.ref lw, .str w0])) e0 (.tup [])) t2 (.tup [.ref e0, .str w1])) c1 (.lst [.str w0])) (a := t3) (o := .tup [.ref c1, .str zz])
    have fw := (b2.trans (b3.trans (b4.trans (b5.trans b6)))) _ _ ew
    have fd := b16 _ _ d1
    have sB6 := b1.trans b16
    clear b1 b2 b3 b4 b5 b6 b15 b16 x1 x3 x4 d1 d2 nt1 nt2 nt3 ne0 nc1 mk
    generalize upd (upd (upd (upd (upd (upd HB d (.dK [])) t1 (.tup [.ref lw, .str w0])) e0 (.tup [])) t2 (.tup [.ref e0, .str w1])) c1 (.lst [.str w0])) t3 (.tup [.ref c1, .str zz]) = H6 at *
    have sB7 : Same HB (upd H6 d (.dK (dictOf (rowsG t1 t2 t3 lw e0 c1 w0 w1 [w2, w3, w4, w5, w6, w7])))) := same_mut sB6 nd
    have nd_ : ∀ {q : Addr} {o : HO}, H6 q = some o → o ≠ .dK [] → upd H6 d (.dK (dictOf (rowsG t1 t2 t3 lw e0 c1 w0 w1 [w2, w3, w4, w5, w6, w7]))) q = some o := fun {q o} e n => by
      rw [upd_ne (ne_of e fd n)]; exact e
    have g1 := nd_ f1 (fun z => nomatch z)
    have g3 := nd_ f3 (fun z => nomatch z)
    have g4 := nd_ f4 (fun z => nomatch z)
    have g5 := nd_ f5 (fun z => nomatch z)
    have g6 := nd_ f6 (fun z => nomatch z)
    have gw := nd_ fw (fun z => nomatch z)
    have gd : upd H6 d (.dK (dictOf (rowsG t1 t2 t3 lw e0 c1 w0 w1 [w2, w3, w4, w5, w6, w7]))) d = _ := upd_same
    clear nd_ f1 f3 f4 f5 f6 fw fd sB6
    generalize upd H6 d (.dK (dictOf (rowsG t1 t2 t3 lw e0 c1 w0 w1 [w2, w3, w4, w5, w6, w7]))) = H7 at *
    refine ⟨_, rfl, _, rfl, lw, _, rfl, SqL.of gw, fun lv nlv => ?_⟩
    have b8 := same_new (o := .lst (cutV ([w0, w1, w2, w3, w4, w5, w6, w7].map V.str) none (some 4))) nlv
    have sB8 := sB7.trans b8
    have G : Gvn p (upd H7 lv (.lst (cutV ([w0, w1, w2, w3, w4, w5, w6, w7].map V.str) none (some 4)))) d lw lv t1 t2 t3 e0 c1 w0 w1 [w2, w3, w4, w5, w6, w7] [w0, w1, w2, w3] :=
      ⟨b8 _ _ gd, b8 _ _ g1, b8 _ _ gw, b8 _ _ g4, b8 _ _ g3, b8 _ _ g6, b8 _ _ g5, upd_same, lwp, stB.keep sB8⟩
    generalize upd H7 lv (.lst (cutV ([w0, w1, w2, w3, w4, w5, w6, w7].map V.str) none (some 4))) = H8 at *
    have W4 : Wds [w0, w1, w2, w3] := ⟨fun z h => wwd z (List.mem_of_mem_take (i := 4) h), wn.sublist (List.take_sublist 4 [w0, w1, w2, w3, w4, w5, w6, w7])⟩
    have W5 : Wds [w4, w5, w6, w7] := ⟨fun z h => wwd z (List.mem_of_mem_drop (i := 4) h), wn.sublist (List.drop_sublist 4 [w0, w1, w2, w3, w4, w5, w6, w7])⟩
    have sH8 : Same H H8 := sHB.trans sB8
    clear gd g1 g3 g4 g5 g6 gw b8 sB7 sB8 nlv
    refine ⟨_, _, rfl, ?_⟩
    have PT := fun (H' : Hp) (s : Same H8 H') => G.keep (SameB.of s) (G.st.keep s)
    -- all right
    refine ⟨_, rfl, _, rfl, _, rfl, _, rfl, lw, _, rfl, SqL.of G.ew, fun l9 nl9 => ?_⟩
    rw [show cutV ([w0, w1, w2, w3, w4, w5, w6, w7].map V.str) (some 4) none = [w4, w5, w6, w7].map V.str from rfl]
    refine ⟨l9, _, rfl, .inl ⟨SqL.of upd_same, fun tq ntq => ?_⟩⟩
    have q2 := same_new' (o := .tup ([w4, w5, w6, w7].map V.str)) (same_new (o := .lst ([w4, w5, w6, w7].map V.str)) nl9) ntq
    have etq : upd (upd H8 l9 (.lst ([w4, w5, w6, w7].map V.str))) tq (.tup ([w4, w5, w6, w7].map V.str)) tq = _ := upd_same
    generalize upd (upd H8 l9 (.lst ([w4, w5, w6, w7].map V.str))) tq (.tup ([w4, w5, w6, w7].map V.str)) = H9 at *
    have G9 := PT _ q2
    refine ⟨_, _, _, _, rfl, .inl ⟨_, ⟨lv, true, [w0, w1, w2, w3]⟩, 4, some ⟨tq, false, [w4, w5, w6, w7]⟩, G9.right W (by show 6 ≤ 6; decide) (by decide) (by decide) (kl_lst G9.ev (by show 4 ≤ 500; decide) W4.wd) (W4.keys (by show ((4 : Nat) : Int) ≤ 4; decide)) (kl_tup etq (by show 4 ≤ 500; decide) W5.wd) (W5.keys (by show ((4 : Nat) : Int) ≤ 4; decide)), fun H10 s10 => ?_⟩⟩
    refine ⟨rfl, _, rfl, iteFe (by rw [decide_eq_true rfl]; rfl) ?_⟩
    have G10 := G9.keep (SameB.of s10) (G9.st.keep s10)
    refine ⟨_, rfl, by show 0 ≤ sizeLine; decide, fun la nla => ⟨by show 0 ≤ sizeLine; decide, fun lb nlb => ?_⟩⟩
    have q3 := same_new' (o := .lst []) (same_new (o := .lst []) nla) nlb
    have eb : upd (upd H10 la (.lst [])) lb (.lst []) lb = some (.lst ([].map V.str)) := upd_same
    have ea : upd (upd H10 la (.lst [])) lb (.lst []) la = some (.lst ([].map V.str)) := same_new nlb _ _ upd_same
    generalize upd (upd H10 la (.lst [])) lb (.lst []) = H11 at *
    have G11 := G10.keep (SameB.of q3) (G10.st.keep q3)
    refine ⟨_, _, _, _, rfl, .inl ⟨_, ⟨la, true, []⟩, 0, some ⟨lb, true, []⟩, G11.right W (by show 6 ≤ 6; decide) (by decide) (by decide) (kl_lst ea (by show 0 ≤ 500; decide) (fun _ h => nomatch h)) rfl (kl_lst eb (by show 0 ≤ 500; decide) (fun _ h => nomatch h)) rfl, fun H12 s12 => ?_⟩⟩
    refine ⟨rfl, _, rfl, iteFe (by rw [decide_eq_true rfl]; rfl) ?_⟩
    have G12 := G11.keep (SameB.of s12) (G11.st.keep s12)
    have sH12 : Same H H12 := sH8.trans (((q2.trans s10).trans q3).trans s12)
    clear PT G G9 G10 G11 q2 q3 s10 s12 etq ea eb ntq nla nlb nl9 sH8
    -- roles that are none
    refine ⟨_, rfl, _, rfl, p, lw, _, rfl, G12.st, G12.ew, lwp, wwd, by show 0 < 8; decide, by show 8 < 1000; decide, fun rp xp H13 nrp exp lxp fxp st13 s13 => ⟨rp, rfl, ⟨_, SqL.of exp⟩, ?_⟩⟩
    have kno : ∀ {Hx : Hp} {y : V} {t : Value}, (∀ H', Same Hx H' → TyX K H' y t) → kit K t "list" false → kit K t "tuple" false → KeysIs K Hx y 4 false := fun ty k1 k2 => keys_no ty k1 k2
    have knon : ∀ Hx : Hp, KeysIs K Hx .non 4 false := fun Hx => kno (fun _ _ => .base .non) (kit_ty (by decide +kernel)) (kit_ty (by decide +kernel))
    have k5 : ∀ Hx : Hp, KeysIs K Hx (.int 5) 4 false := fun Hx => kno (fun _ _ => .base (.int _)) (kit_ty (by decide +kernel)) (kit_ty (by decide +kernel))
    have kv4 : ∀ {Hx : Hp}, Gvn p Hx d lw lv t1 t2 t3 e0 c1 w0 w1 [w2, w3, w4, w5, w6, w7] [w0, w1, w2, w3] → KeysIs K Hx (.ref lv) 4 true := fun {Hx} g => by
      have z1 := (kl_lst (K := K) g.ev (by show 4 ≤ 500; decide) W4.wd).is 4
      rw [W4.keys (by show ((4 : Nat) : Int) ≤ 4; decide)] at z1
      exact z1
    have G13 := G12.keep s13 st13
    have sH13 : Same H H13 := SameB.out sH12 s13 npz
    show Exists _
    refine for_list (K := K) (a := rp) (xs := xp) (fun j sg Hi => ∃ v4 : Option V, sg = [some (.ref a), some (.int i), some (.ref p), some (.ref lw), v4, some (.ref d), some (.ref lv)] ∧ Same H13 Hi) ⟨_, rfl, .refl _⟩ (fun j sg Hi _ ⟨_, _, s⟩ => SqL.of (s _ _ exp)) ?_ ?_
    · rintro j o sg Hi ho ⟨v4, rfl, sI⟩
      have R := fxp o (List.mem_of_getElem? ho)
      have GI := G13.keep (SameB.of sI) (G13.st.keep sI)
      refine ⟨_, rfl, _, rfl, _, _, _, _, rfl, .inr ⟨.str "roles", ⟨false, true, true, true, R.keep sI, kv4 GI, needs_is (by decide) (by decide), .inl ⟨rfl, rfl⟩, rfl, (fun z => nomatch z)⟩, fun l Hl nl sl el => ⟨_, rfl, fun l2 nl2 => ne_lit (same_new nl2 _ _ el) upd_same (by decide +kernel) (by decide +kernel) ⟨_, rfl, iteF ?_⟩⟩⟩⟩
      have sI2 := sI.trans (same_new' (o := .lst [.str "roles", .bl true, .bl false]) sl nl2)
      refine ⟨_, rfl, _, rfl, _, _, _, _, rfl, .inr ⟨.str "roles", ⟨false, false, false, false, R.keep sI2, knon _, .inl ⟨_, rfl, rfl⟩, .inr ⟨(fun z => nomatch z), k5 _⟩, rfl, (fun z => nomatch z)⟩, fun l3 Hl3 nl3 sl3 el3 => ⟨_, rfl, fun l4 nl4 => ne_lit (same_new nl4 _ _ el3) upd_same (by decide +kernel) (by decide +kernel) ⟨_, rfl, iteF ?_⟩⟩⟩⟩
      exact ⟨_, rfl, sI2.trans (same_new' sl3 nl4)⟩
    rintro sg H14 ⟨v4, rfl, s14⟩
    have G14 := G13.keep (SameB.of s14) (G13.st.keep s14)
    have sH14 := sH13.trans s14
    clear G12 G13 sH12 sH13 nrp exp lxp fxp st13 s13 s14
    -- vouchers that are none
    refine ⟨_, rfl, _, rfl, p, lw, _, rfl, G14.st, G14.ew, lwp, wwd, by show 0 < 8; decide, by show 8 < 1000; decide, fun rk xk H15 nrk exk lxk fxk st15 s15 => ⟨by show 1 ≤ sizeLine; decide, fun ln nln => ?_⟩⟩
    refine ⟨rk, ln, xk, [.non], rfl, rfl, same_new nln _ _ exk, upd_same, by rw [lxk]; show 11 + 1 ≤ sizeLine; decide, fun r2 nr2 => ⟨r2, rfl, ⟨_, SqL.of upd_same⟩, ?_⟩⟩
    have s16 := same_new' (o := .lst (xk ++ [.non])) (same_new (o := .lst [.non]) nln) nr2
    have e16 : upd (upd H15 ln (.lst [.non])) r2 (.lst (xk ++ [.non])) r2 = _ := upd_same
    generalize upd (upd H15 ln (.lst [.non])) r2 (.lst (xk ++ [.non])) = H16 at *
    have G16 := G14.keep (s15.trans (SameB.of s16)) (st15.keep s16)
    have sH16 : Same H H16 := SameB.out sH14 (s15.trans (SameB.of s16)) npz
    have f16 : ∀ o ∈ xk ++ [.non], KeysIs K H16 o 4 false := fun o ho => by
      rcases List.mem_append.mp ho with ho | ho
      · exact (fxk o ho).2.keep s16
      · rw [List.mem_singleton.mp ho]; exact knon _
    show Exists _
    refine for_list (K := K) (a := r2) (xs := xk ++ [.non]) (fun j sg Hi => ∃ v4 : Option V, sg = [some (.ref a), some (.int i), some (.ref p), some (.ref lw), v4, some (.ref d), some (.ref lv)] ∧ Same H16 Hi) ⟨_, rfl, .refl _⟩ (fun j sg Hi _ ⟨_, _, s⟩ => SqL.of (s _ _ e16)) ?_ ?_
    · rintro j o sg Hi ho ⟨v4, rfl, sI⟩
      have ko := f16 o (List.mem_of_getElem? ho)
      have GI := G16.keep (SameB.of sI) (G16.st.keep sI)
      refine ⟨_, rfl, _, rfl, _, _, _, _, rfl, .inr ⟨.str "vouchers", ⟨true, false, true, true, GI.roles W (by show 6 ≤ 6; decide), ko.keep sI, needs_is (by decide) (by decide), .inl ⟨rfl, rfl⟩, rfl, (fun z => nomatch z)⟩, fun l Hl nl sl el => ⟨_, rfl, fun l2 nl2 => ne_lit (same_new nl2 _ _ el) upd_same (by decide +kernel) (by decide +kernel) ⟨_, rfl, iteF ?_⟩⟩⟩⟩
      have sI2 := sI.trans (same_new' (o := .lst [.str "vouchers", .bl true, .bl false]) sl nl2)
      have GI2 := G16.keep (SameB.of sI2) (G16.st.keep sI2)
      have sgn : ∃ f4, (o = .non ∧ f4 = true) ∨ (o ≠ .non ∧ KeysIs K (upd Hl l2 (.lst [.str "vouchers", .bl true, .bl false])) o 4 f4) := by
        by_cases c : o = .non
        · exact ⟨true, .inl ⟨c, rfl⟩⟩
        · exact ⟨false, .inr ⟨c, ko.keep sI2⟩⟩
      obtain ⟨f4, sgn⟩ := sgn
      have nnn : NeedIs K (upd Hl l2 (.lst [.str "vouchers", .bl true, .bl false])) .non false := .inr ⟨rfl, _, false, false, fun _ _ => .base .non, kit_ty (by decide +kernel), (fun z => nomatch z), rfl⟩
      refine ⟨_, rfl, _, rfl, _, rfl, _, _, _, _, rfl, .inr ⟨.str "vouchers", ⟨true, false, false, f4, GI2.roles W (by show 6 ≤ 6; decide), ko.keep sI2, nnn, sgn, rfl, (fun z => nomatch z)⟩, fun l3 Hl3 nl3 sl3 el3 => ⟨_, rfl, fun l4 nl4 => ne_lit (same_new nl4 _ _ el3) upd_same (by decide +kernel) (by decide +kernel) ⟨_, rfl, iteF ?_⟩⟩⟩⟩
      exact ⟨_, rfl, sI2.trans (same_new' sl3 nl4)⟩
    rintro sg H17 ⟨v5, rfl, s17⟩
    have G17 := G16.keep (SameB.of s17) (G16.st.keep s17)
    have sH17 := sH16.trans s17
    clear G14 G16 sH14 sH16 nrk exk lxk fxk st15 s15 s16 e16 f16 s17 nln nr2
    -- needed that is none
    refine ⟨_, rfl, by show 1 ≤ sizeLine; decide, fun lx nlx => ⟨_, _, rfl, rfl, (⟨by decide, by decide, by decide⟩ : CPow _ _), by show 7 ≤ sizeLine; decide, fun ln nln => ⟨ln, rfl, ⟨_, SqL.of upd_same⟩, ?_⟩⟩⟩
    generalize eH : upd (upd H17 lx _) ln _ = H18
    have e18 : H18 ln = some (.lst [.int (-1), .int 5, .non, .bl true, .str "1", .ref lx, .int 100000000000000000000]) := by
      rw [← eH, upd_same, ← p20]
    have s18 : Same H17 H18 := by rw [← eH]; exact same_new' (same_new nlx) nln
    have ex18 : H18 lx = some (.lst [.int 1]) := by rw [← eH]; exact same_new nln _ _ upd_same
    clear eH
    have G18 := G17.keep (SameB.of s18) (G17.st.keep s18)
    have nno : ∀ {y : V} {t : Value}, (∀ H', Same H18 H' → TyX K H' y t) → kit K t "int" false → NeedIs K H18 y false := fun ty k1 => .inr ⟨rfl, _, false, false, ty, k1, (fun z => nomatch z), rfl⟩
    have f18 : ∀ o ∈ ([.int (-1), .int 5, .non, .bl true, .str "1", .ref lx, .int 100000000000000000000] : List V), NeedIs K H18 o false := fun o ho => by
      simp only [List.mem_cons, List.not_mem_nil, or_false] at ho
      rcases ho with rfl | rfl | rfl | rfl | rfl | rfl | rfl
      · exact .inl ⟨_, rfl, by decide⟩
      · exact .inl ⟨_, rfl, by decide⟩
      · exact nno (fun _ _ => .base .non) (kit_ty (by decide +kernel))
      · exact .inr ⟨rfl, _, true, true, (fun _ _ => .base (.bl _)), kit_ty (by decide +kernel), (fun _ => kit_ty (by decide +kernel)), rfl⟩
      · exact nno (fun _ _ => .base (.str _)) (kit_ty (by decide +kernel))
      · exact nno (fun _ s => .base (.lst (s _ _ ex18))) (kit_ty (by decide +kernel))
      · exact .inl ⟨_, rfl, by decide⟩
    show Exists _
    refine for_list (K := K) (a := ln) (xs := [.int (-1), .int 5, .non, .bl true, .str "1", .ref lx, .int 100000000000000000000]) (fun j sg Hi => ∃ v4 : Option V, sg = [some (.ref a), some (.int i), some (.ref p), some (.ref lw), v4, some (.ref d), some (.ref lv)] ∧ Same H18 Hi) ⟨_, rfl, .refl _⟩ (fun j sg Hi _ ⟨_, _, s⟩ => SqL.of (s _ _ e18)) ?_ ?_
    · rintro j o sg Hi ho ⟨v4, rfl, sI⟩
      have ko := f18 o (List.mem_of_getElem? ho)
      have GI := G18.keep (SameB.of sI) (G18.st.keep sI)
      refine ⟨_, rfl, _, rfl, _, rfl, _, _, _, _, rfl, .inr ⟨.str "needed", ⟨true, true, false, true, GI.roles W (by show 6 ≤ 6; decide), kv4 GI, ko.keep sI, .inl ⟨rfl, rfl⟩, rfl, (fun z => nomatch z)⟩, fun l Hl nl sl el => ⟨_, rfl, fun l2 nl2 => ne_lit (same_new nl2 _ _ el) upd_same (by decide +kernel) (by decide +kernel) ⟨_, rfl, iteF ?_⟩⟩⟩⟩
      have sI2 := sI.trans (same_new' (o := .lst [.str "needed", .bl true, .bl false]) sl nl2)
      have GI2 := G18.keep (SameB.of sI2) (G18.st.keep sI2)
      refine ⟨_, rfl, _, rfl, _, rfl, _, _, _, _, rfl, .inr ⟨.str "needed", ⟨true, true, false, false, GI2.roles W (by show 6 ≤ 6; decide), kv4 GI2, ko.keep sI2, .inr ⟨(fun z => nomatch z), k5 _⟩, rfl, (fun z => nomatch z)⟩, fun l3 Hl3 nl3 sl3 el3 => ⟨_, rfl, fun l4 nl4 => ne_lit (same_new nl4 _ _ el3) upd_same (by decide +kernel) (by decide +kernel) ⟨_, rfl, iteF ?_⟩⟩⟩⟩
      exact ⟨_, rfl, sI2.trans (same_new' sl3 nl4)⟩
    rintro sg H19 ⟨v6, rfl, s19⟩
    have G19 := G18.keep (SameB.of s19) (G18.st.keep s19)
    have sH19 := (sH17.trans s18).trans s19
    clear G17 G18 sH17 e18 s18 ex18 f18 s19 nlx nln
    -- signers that are none
    refine ⟨_, rfl, _, rfl, p, lw, _, rfl, G19.st, G19.ew, lwp, wwd, by show 0 < 8; decide, by show 8 < 1000; decide, fun rk xk H20 nrk exk lxk fxk st20 s20 => ⟨rk, rfl, ⟨_, SqL.of exk⟩, ?_⟩⟩
    have G20 := G19.keep s20 st20
    have sH20 : Same H H20 := SameB.out sH19 s20 npz
    show Exists _
    refine for_list (K := K) (a := rk) (xs := xk) (fun j sg Hi => ∃ v4 : Option V, sg = [some (.ref a), some (.int i), some (.ref p), some (.ref lw), v4, some (.ref d), some (.ref lv)] ∧ Same H20 Hi) ⟨_, rfl, .refl _⟩ (fun j sg Hi _ ⟨_, _, s⟩ => SqL.of (s _ _ exk)) ?_ ?_
    · rintro j o sg Hi ho ⟨v4, rfl, sI⟩
      have ko := fxk o (List.mem_of_getElem? ho)
      have GI := G20.keep (SameB.of sI) (G20.st.keep sI)
      refine ⟨_, rfl, _, rfl, _, rfl, _, _, _, _, rfl, .inr ⟨.str "signers", ⟨true, true, true, false, GI.roles W (by show 6 ≤ 6; decide), kv4 GI, needs_is (by decide) (by decide), .inr ⟨ko.1, ko.2.keep sI⟩, rfl, (fun z => nomatch z)⟩, fun l Hl nl sl el => ⟨_, rfl, fun l2 nl2 => ne_lit (same_new nl2 _ _ el) upd_same (by decide +kernel) (by decide +kernel) ⟨_, rfl, iteF ?_⟩⟩⟩⟩
      exact ⟨_, rfl, sI.trans (same_new' sl nl2)⟩
    rintro sg H21 ⟨v7, rfl, s21⟩
    exact ⟨_, _, _, _, _, _, rfl, sH20.trans s21⟩
  · rintro sg H1 ⟨v1, v2, v3, v4, v5, v6, rfl, s1⟩
    exact k _
end

end K07

namespace K07
open PySem PySem.Spec PyProof.Rows L2 Jg
local macro_rules | `(tactic| walk_at "rd1") => `(tactic| (first
  | refine ⟨_, rfl, ?_⟩
  | refine ⟨_, _, rfl, rfl, ?_⟩
  | refine ⟨_, _, rfl, ?_⟩
  | refine ⟨rfl, ?_⟩
  | (refine ⟨show (0 : Int) < _ by omega, ?_⟩)
  | (refine ⟨Or.inl ⟨by omega, by omega⟩, ?_⟩)
  | (refine ⟨Or.inr ⟨by omega, by omega⟩, ?_⟩)
  | (refine ⟨(⟨by decide, by decide, by decide⟩ : CPow _ _), ?_⟩)
  | refine Or.inl ⟨_, rfl, ?_⟩
  | refine Or.inr ⟨_, rfl, ?_⟩
  | fail "rd"))
local macro_rules | `(tactic| walk_at "rd") => `(tactic| repeat' walk_at "rd1")


theorem ExnQ.of {K : PySem.W.Frag} {h : Heap} {mg : Str → Option Value} {x : Str} {CI : Addr} {qual : Str} {st : Stmt} {f : Str} {B nid iid : String} {line : List Value} {fI : Addr} {oc : Value} {od an : Option Addr} {osl : Array (Option Value)} {kV doc pm cdv ct : Value}
    (X : K.In h) (G : h.Ns mainGlobals mg) (fB : ExcBaseFacts B nid iid line) (sB : StoreFacts B line "object.__setattr__" "object") (aI : PySem.W.nsIn K mainGlobals x = some (some (.ref CI))) (xI : PySem.W.excInitIn K CI line nid = true) (xO : PySem.W.excOver K CI line = true)
    (sa : PySem.W.findIn K (.ref CI) "__setattr__" = some (some (.builtin "object.__setattr__"))) (exC : PySem.W.subIn K (.ref CI) (.type "BaseException") = some true) (tyC : PySem.W.typeIn K (.ref CI) = some (.type "type")) (kC : PySem.W.keepIn K (.ref CI) = true)
    (ga : PySem.W.findIn K (.ref CI) "__getattribute__" = some (some (.builtin "BaseException.__getattribute__"))) (gg : PySem.W.findIn K (.ref CI) "__getattr__" = some none) (hdC : PySem.W.hasDictIn K CI = true)
    (ha : PySem.W.findIn K (.ref CI) "__class__" = some (some (.builtin "object.__class__"))) (hn : PySem.W.specialIn K (.builtin "object.__class__") "__get__" = some (some (.builtin "getset_descriptor.__get__"))) (ht : PySem.W.takesIn K (.builtin "object.__class__") = some true) (hm : PySem.W.mroIn K CI (.type "object") = some true)
    (no : PySem.W.findIn K (.ref CI) f = some none) (iI : PySem.W.findIn K (.ref CI) "__init__" = some (some (.ref fI))) (tI : PySem.W.typeIn K (.ref fI) = some (.type "function"))
    (l : K.lookup fI = some ⟨oc, od, .func (PySem.W.fnOf "__init__" qual (defArgs st) (defBody st) (defScope st) .none kV doc pm an cdv ct), osl⟩) (c : PySem.W.codeIn K cdv qual = true) (k : PySem.W.keepIn K (.ref fI) = true)
    (sC : PySem.W.subIn K (.ref CI) (.ref CI) = some true) : ExnQ K mg x CI qual st f :=
  ⟨PySem.W.mg_of X G aI, ⟨B, nid, iid, line, fB, sB, xI, xO, hdC, sa, exC, tyC, kC⟩, ⟨⟨ga, gg, exC, hdC⟩, ha, hn, ht, hm⟩, no, ⟨fI, _, fun_mk l c k, iI, tI⟩, PySem.W.exm_ref exC hdC tyC sC⟩
theorem Txt.of {K : PySem.W.Frag} {h : Heap} {mg : Str → Option Value} {t0 t1 t2 t3 : Tok} (X : K.In h) (G : h.Ns mainGlobals mg) (b0 : PySem.W.nsIn K mainGlobals "isinstance" = some none) (b1 : PySem.W.nsIn K mainGlobals "int" = some none) (b2 : PySem.W.nsIn K mainGlobals "bool" = some none) (b3 : PySem.W.nsIn K mainGlobals "str" = some none) (b4 : PySem.W.nsIn K mainGlobals "list" = some none) (b5 : PySem.W.nsIn K mainGlobals "tuple" = some none) (b6 : PySem.W.nsIn K mainGlobals "dict" = some none) (b7 : PySem.W.nsIn K mainGlobals "len" = some none) (b8 : PySem.W.nsIn K mainGlobals "all" = some none) (b9 : PySem.W.nsIn K mainGlobals "any" = some none) (b10 : PySem.W.nsIn K mainGlobals "set" = some none) (b11 : PySem.W.nsIn K mainGlobals "sorted" = some none) (b12 : PySem.W.nsIn K mainGlobals "max" = some none) (b13 : PySem.W.nsIn K mainGlobals "min" = some none) (b14 : PySem.W.nsIn K mainGlobals "range" = some none) (b15 : PySem.W.nsIn K mainGlobals "repr" = some none) (b16 : PySem.W.nsIn K mainGlobals "sum" = some none)
    (g0 : PySem.W.nsIn K mainGlobals "_MOST_ROLES" = some (some (.int 3 t0))) (g1 : PySem.W.nsIn K mainGlobals "_MOST_ACCEPTED" = some (some (.int 8 t1))) (g2 : PySem.W.nsIn K mainGlobals "_MOST_VOUCHERS" = some (some (.int 4 t2))) (g3 : PySem.W.nsIn K mainGlobals "_MOST_NEEDED" = some (some (.int 4 t3))) : Txt K mg :=
  have n {x : Str} (z : PySem.W.nsIn K mainGlobals x = some none) : mg x = none := PySem.W.mg_none_of X G z
  ⟨n b0, n b1, n b2, n b3, n b4, n b5, n b6, n b7, n b8, n b9, n b10, n b11, n b12, n b13, n b14, n b15, n b16, ⟨_, PySem.W.mg_of X G g0, t0, rfl⟩, ⟨_, PySem.W.mg_of X G g1, t1, rfl⟩, ⟨_, PySem.W.mg_of X G g2, t2, rfl⟩, ⟨_, PySem.W.mg_of X G g3, t3, rfl⟩⟩
theorem CTx.of {K : PySem.W.Frag} {h : Heap} {mg : Str → Option Value} {C : Addr} (X : K.In h) (G : h.Ns mainGlobals mg) (pg : PySem.W.plainGet K C Str.empty = true) (hd : PySem.W.hasDictIn K C = true) (po : PySem.W.plainOver K C = true) (sa : PySem.W.findIn K (.ref C) "__setattr__" = some (some (.builtin "object.__setattr__")))
    (aC : PySem.W.nsIn K mainGlobals "Contents" = some (some (.ref C))) (c1 : PySem.W.findIn K (.ref C) "__class__" = some (some (.builtin "object.__class__"))) (c2 : PySem.W.specialIn K (.builtin "object.__class__") "__get__" = some (some (.builtin "getset_descriptor.__get__"))) (c3 : PySem.W.takesIn K (.builtin "object.__class__") = some true)
    (c4 : PySem.W.mroIn K C (.type "object") = some true) (c5 : PySem.W.findIn K (.ref C) "__ne__" = some (some (.builtin "object.__ne__")))
    (k0 : PySem.W.kitOne K (.ref C) (.ref C) = some true) (k1 : PySem.W.kitOne K (.type "NoneType") (.ref C) = some false) (k2 : PySem.W.kitOne K (.type "int") (.ref C) = some false) (k3 : PySem.W.kitOne K (.type "str") (.ref C) = some false) (k4 : PySem.W.kitOne K (.type "list") (.ref C) = some false) (k5 : PySem.W.kitOne K (.type "tuple") (.ref C) = some false) (k6 : PySem.W.kitOne K (.type "dict") (.ref C) = some false) (o0 : PySem.W.notFirst K C (.ref C) = true) (o1 : PySem.W.notFirst K C (.type "NoneType") = true) (o2 : PySem.W.notFirst K C (.type "int") = true) (o3 : PySem.W.notFirst K C (.type "str") = true) (o4 : PySem.W.notFirst K C (.type "list") = true) (o5 : PySem.W.notFirst K C (.type "tuple") = true) (o6 : PySem.W.notFirst K C (.type "dict") = true)
    (n0 : PySem.W.findIn K (.ref C) "_uses" = some none) (n1 : PySem.W.findIn K (.ref C) "_vouchers" = some none) (n2 : PySem.W.findIn K (.ref C) "_needed" = some none) (n3 : PySem.W.findIn K (.ref C) "_signers" = some none) : CTx K mg C :=
  ⟨⟨pg, hd, po, sa⟩, PySem.W.mg_of X G aC, c1, c2, c3, c4, c5, k0, k1, k2, k3, k4, k5, k6, o0, o1, o2, o3, o4, o5, o6, n0, n1, n2, n3⟩
theorem Tst.of {K : PySem.W.Frag} {h : Heap} {mg : Str → Option Value} {CI CG CP : Addr} (X : K.In h) (G : h.Ns mainGlobals mg) (aG : PySem.W.nsIn K mainGlobals "GapError" = some (some (.ref CG))) (aP : PySem.W.nsIn K mainGlobals "InvalidPlan" = some (some (.ref CP)))
    (kG : PySem.W.kitOne K (.ref CI) (.ref CG) = some true) (kP : PySem.W.kitOne K (.ref CI) (.ref CP) = some false) : Tst K mg CI CG CP :=
  ⟨PySem.W.mg_of X G aG, PySem.W.mg_of X G aP, kG, kP⟩
abbrev kws2 : List (Str × V) := [("needed", .int 1), ("signers", .non)]
theorem Ini.of {K : PySem.W.Frag} {C D : Addr} {qual : Str} {st : Stmt} {f : Addr} {oc : Value} {od an : Option Addr} {osl : Array (Option Value)} {doc pm cdv ct : Value} {tk : Tok}
    (a : PySem.W.findIn K (.ref C) "__init__" = some (some (.ref f))) (i : PySem.W.isFn K (.ref f) = true) (l : K.lookup f = some ⟨oc, od, .func (PySem.W.fnOf "__init__" qual (defArgs st) (defBody st) (defScope st) .none (.ref D) doc pm an cdv ct), osl⟩)
    (c : PySem.W.codeIn K cdv qual = true) (k : PySem.W.keepIn K (.ref f) = true) (d1 : PySem.W.nsIn K D "needed" = some (some (.int 1 tk))) (d2 : PySem.W.nsIn K D "signers" = some (some .none)) : IniK K C qual st kws2 :=
  IniK.of a i l c k (.inr ⟨D, rfl, fun q hq => by
    simp only [kws2, List.mem_cons, List.not_mem_nil, or_false] at hq
    rcases hq with rfl | rfl
    · exact ⟨.int 1 tk, d1, tk, rfl⟩
    · exact ⟨.none, d2, rfl⟩⟩)
theorem len_cinit {P : Program} {w : World} {K : PySem.W.Frag} {C CI : Addr} : ∀ vs H Q E, spCInit P w K C CI vs H Q E → vs.length = ["self", "roles", "vouchers", "needed", "signers"].length := fun vs H Q E h => by
  obtain ⟨x, dx, r, v, n, s, H0, rfl, _⟩ := h; rfl
theorem mak2 {P : Program} {w : World} {K : PySem.W.Frag} {mg : Str → Option Value} {base : Heap} {C CI : Addr} (D : IniK K C "Contents.__init__" s_Contents_init kws2) (m : mg "Contents" = some (.ref C)) (mk : PySem.W.makesIn K C = true) (kp : PySem.W.keepIn K (.ref C) = true)
    (body : ∀ f, BodyX P w K mg base ["self", "roles", "vouchers", "needed", "signers", "part", "role", "accepted", "used"] "Contents.__init__" s_Contents_init f 6 (spCInit P w K C CI)) : MakN P w K mg base (L2.CX P w) 7 "Contents" C 2 ["needed", "signers"] (fun vs zs => vs ++ zs) (spCInit P w K C CI) :=
  D.makN m mk kp sc_Contents_init len_cinit 2 [] (fun us mv ws => us ++ ws) (fun z => nomatch z) (fun q hq => nomatch hq) (fun r1 _ r3 => r1.append r3)
    (fun D doc pm an cdv ct us mv ws h1 h2 h3 => match us, mv, ws, h1, h2, h3 with | [_, _, _], [], [_, _], _, _, _ => rfl) body
theorem fin {P : Program} {w : World} {K : PySem.W.Frag} {mg : Str → Option Value} {fa C CI CG CP : Addr} (hfa : mg "law" = some (.ref fa)) (T : Txt K mg) (J : CTx K mg C) (mk1 : PySem.W.makesIn K C = true) (mk2 : PySem.W.keepIn K (.ref C) = true)
    (I : ExnQ K mg "InvalidContents" CI "InvalidContents.__init__" s_InvalidContents_init "part") (S : Tst K mg CI CG CP) (N : IniK K C "Contents.__init__" s_Contents_init kws2)
    (d1 : DefK K mg "is_integer" s_is_integer) (d2 : DefK K mg "is_word" s_is_word) (d3 : DefK K mg "are_different_keys" s_are_different_keys) (d4 : DefK K mg "_in_order" s_in_order) (d5 : DefK K mg "_is_use" s_is_use) (d6 : DefK K mg "_are_roles" s_are_roles) (d7 : DefK K mg "_wrong_part" s_wrong_part) (d8 : DefK K mg "_law_stream" s_law_stream) (d9 : DefK K mg "_law_draw" s_law_draw) (d10 : DefK K mg "_law_choose" s_law_choose) (d11 : DefK K mg "_law_words" s_law_words) (d12 : DefK K mg "_law_told_error" s_law_told_error) (d13 : DefK K mg "_law_due" s_law_due) (d14 : DefK K mg "_law_bad" s_law_bad) (d15 : DefK K mg "_law_odd_parts" s_law_odd_parts) (d16 : DefK K mg "_law_odd_keys" s_law_odd_keys) (d17 : DefK K mg "law" s_law) :
    ∃ fd : FuncData, (∀ (s : Shared) (v : Value), BindsTo s fd ⟨[v], []⟩ [("script", v)]) ∧ ∀ base : Heap, K.In base → base.Ns mainGlobals mg → FnG P w K mg base CX0 11 fa fd ["script"] (spLaw K) := by
  obtain ⟨f, fd, F, m⟩ := d17.ex
  rw [hfa] at m
  cases m
  refine ⟨fd, ?_, fun base _ _ => ?_⟩
  · obtain ⟨_, _, _, _, _, _, _, _, _, rfl, _, _⟩ := F.ex
    exact fun s v => .of_eq rfl
  · have g1 := ok_is_integer (P := P) (w := w) (base := base) d1 T
    have g2 := ok_is_word (P := P) (w := w) (base := base) d2 T
    have g3' := ok_keys (P := P) (w := w) (base := base) d3 T g2
    have g4 := ok_order (P := P) (w := w) (base := base) d4 T
    have g5 := ok_use (P := P) (w := w) (base := base) d5 T g2 g3'
    have g6 := ok_roles (P := P) (w := w) (base := base) d6 T g2 g5
    have g7 := ok_wrong (P := P) (w := w) (base := base) d7 T g1 g3' g6
    have xI := ok_cxinit (P := P) (w := w) (base := base) I
    have M2 := mak2 (P := P) (w := w) (base := base) (CI := CI) N J.cC mk1 mk2 (body_cinit T J g7 g4 xI)
    have g8 := ok_stream (P := P) (w := w) (base := base) d8 T
    have g9 := ok_draw (P := P) (w := w) (base := base) d9
    have g10 := ok_choose (P := P) (w := w) (base := base) d10 T g9
    have g11 := ok_words (P := P) (w := w) (base := base) d11 T g9 g10
    have g12 := ok_told (P := P) (w := w) (base := base) d12 T I S M2
    have g13 := ok_due (P := P) (w := w) (base := base) d13
    have g14 := ok_bad (P := P) (w := w) (base := base) d14 g10
    have g15 := ok_oddp (P := P) (w := w) (base := base) d15 T g10 g14
    have g16 := ok_oddk (P := P) (w := w) (base := base) d16 T g10 g14
    exact fnG_of F sc_law (fun vs H Q E h => by obtain ⟨a, ns, rfl, _⟩ := h; rfl) fun cdv A outer s H vs Q E g hr h =>
      let ⟨t, a, q⟩ := body_law T g8 g11 g12 g13 g15 g16 fa cdv A outer s H vs Q E hr h
      ⟨t, a.nox, q⟩
theorem walk {l : PySem.W.OpenLaw} {q : Program} {loose : List Str} {XP : (Str → Option Value) → Heap → Prop} {YP : World → Heap → Prop} {d : DefRec} {K : Params → PySem.W.Frag} (hn : l.most = some 63) (hdf : d.params.defaults = [])
    (hY : ∀ (w : World) (h : Heap), YP w h → (K w.params).In h)
    (F : ∀ (w : World) (mg : Str → Option Value) (fa : Addr) (h : Heap), (K w.params).In h → h.Ns mainGlobals mg → mg d.name = some (.ref fa) → XP mg h →
      ∃ fd : FuncData, (∀ (s : Shared) (u : Value), BindsTo s fd ⟨[u], []⟩ [("script", u)]) ∧ ∀ base : Heap, (K w.params).In base → base.Ns mainGlobals mg → FnG l.prog w (K w.params) mg base CX0 11 fa fd ["script"] (spLaw (K w.params))) :
    PySem.W.WalkO q loose XP YP l.row.toRowW d [] (fun f vs => PySem.call f vs) :=
  walk_ofG (n := 63) (k := 11) (x := "script") (CX := fun _ => CX0) (sp := fun w => spLaw (K w.params)) hn (by decide) hdf ⟨rfl, by decide, by decide⟩ hY F (fun _ _ a ns hl _ hS => ⟨a, ns, rfl, hS, hl, fun _ => rfl⟩) fun _ _ _ _ _ z => z
end K07
open PySem PySem.W PyProof.Rows
local macro_rules | `(tactic| walk_at "dk") => `(tactic| (refine' Jg.DefK.of (by assumption) (by assumption) ?a ?l ?c ?k; (case a => k_is); (case l => k_is); (case c => k_is); (case k => k_is)))
local macro_rules | `(tactic| walk_at "mk") => `(tactic| (refine' Jg.MetK.of ?a ?i ?l ?c ?k; (case a => k_is); (case i => k_is); (case l => k_is); (case c => k_is); (case k => k_is)))
local macro_rules | `(tactic| walk_at "pk") => `(tactic| (refine' Jg.PrpK.of ?a ?g ?tk ?rc ?l ?c ?k; (case a => k_is); (case g => k_is); (case tk => k_is); (case rc => k_is); (case l => k_is); (case c => k_is); (case k => k_is)))
local macro_rules | `(tactic| walk_at "ck") => `(tactic| (refine' Jg.CmtK.of ?rd ?ga ?a ?rc ?fi ?l ?c ?k; (case rd => k_is); (case ga => k_is); (case a => k_is); (case rc => k_is); (case fi => k_is); (case l => k_is); (case c => k_is); (case k => k_is)))
set_option maxRecDepth 100000 in
set_option maxHeartbeats 0 in
theorem PySem.Challenge.cw_gaplesskeys_k07_wrong_contents_holds : PySem.Challenge.rw_gaplesskeys_k07_wrong_contents.Holds := by
  w_on; o_law; k_head; (case hw => w_witness2)
  k_fill
  refine K07.walk (l := PySem.Challenge.rw_gaplesskeys_k07_wrong_contents) rfl rfl (fun w h Y => PySem.W.kIn_of Y) ?F
  case F =>
    intro w mg fa h KX G hmg XP
    refine' K07.fin hmg ?T ?J ?mk1 ?mk2 ?I ?S ?NN ?d1 ?d2 ?d3 ?d4 ?d5 ?d6 ?d7 ?d8 ?d9 ?d10 ?d11 ?d12 ?d13 ?d14 ?d15 ?d16 ?d17
    case T =>
      refine' K07.Txt.of KX G ?b0 ?b1 ?b2 ?b3 ?b4 ?b5 ?b6 ?b7 ?b8 ?b9 ?b10 ?b11 ?b12 ?b13 ?b14 ?b15 ?b16 ?Tg0 ?Tg1 ?Tg2 ?Tg3
      case Tg0 => k_is
      case Tg1 => k_is
      case Tg2 => k_is
      case Tg3 => k_is
      all_goals (first | k_is | kit_is)
    case J =>
      refine' K07.CTx.of KX G ?Jpg ?Jhd ?Jpo ?Jsa ?JaC ?Jc1 ?Jc2 ?Jc3 ?Jc4 ?Jc5 ?Jk0 ?Jk1 ?Jk2 ?Jk3 ?Jk4 ?Jk5 ?Jk6 ?Jo0 ?Jo1 ?Jo2 ?Jo3 ?Jo4 ?Jo5 ?Jo6 ?Jn0 ?Jn1 ?Jn2 ?Jn3
      case JaC => k_is
      all_goals (first | k_is | kit_is | rfl)
    (case mk1 => k_is); (case mk2 => k_is)
    case I =>
      refine' K07.ExnQ.of KX G PySem.F.excBase_ValueError PySem.F.store_ValueError ?XaI ?XxI ?XxO ?Xsa ?XexC ?XtyC ?XkC ?Xga ?Xgg ?XhdC ?Xha ?Xhn ?Xht ?Xhm ?Xno ?XiI ?XtI ?Xl ?Xc ?Xk ?XsC
      (case XaI => k_is); (case XxI => first | decide +kernel | rfl); (case XxO => first | decide +kernel | rfl); (case Xsa => k_is); (case XexC => k_is); (case XtyC => k_is); (case XkC => k_is); (case Xga => k_is); (case Xgg => k_is); (case XhdC => k_is); (case Xha => k_is); (case Xhn => k_is); (case Xht => k_is); (case Xhm => k_is)
      (case Xno => k_is); (case XiI => k_is); (case XtI => k_is); (case Xl => k_is); (case Xc => k_is); (case Xk => k_is); (case XsC => first | rfl | k_is)
    case S =>
      refine' K07.Tst.of KX G ?YaG ?YaP ?YkG ?YkP
      (case YaG => k_is); (case YaP => k_is)
      all_goals (first | k_is | kit_is | rfl)
    case NN =>
      refine' K07.Ini.of ?Na ?Ni ?Nl ?Nc ?Nk ?Nd1 ?Nd2
      (case Na => k_is); (case Ni => k_is); (case Nl => k_is); (case Nc => k_is); (case Nk => k_is); (case Nd1 => k_is); (case Nd2 => k_is)
    (case d1 => walk_at "dk")
    (case d2 => walk_at "dk")
    (case d3 => walk_at "dk")
    (case d4 => walk_at "dk")
    (case d5 => walk_at "dk")
    (case d6 => walk_at "dk")
    (case d7 => walk_at "dk")
    (case d8 => walk_at "dk")
    (case d9 => walk_at "dk")
    (case d10 => walk_at "dk")
    (case d11 => walk_at "dk")
    (case d12 => walk_at "dk")
    (case d13 => walk_at "dk")
    (case d14 => walk_at "dk")
    (case d15 => walk_at "dk")
    (case d16 => walk_at "dk")
    (case d17 => walk_at "dk")
#print axioms PySem.Challenge.cw_gaplesskeys_k07_wrong_contents_holds
