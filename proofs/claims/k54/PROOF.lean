import PyProof.Rows.All
import Wide.All
import OpenK.AllK
import Wide.FinOn
import HandS.ForMost
import HandS.IsInst
import HandS.ClsMeth
import HandS.Property
import HandS.Strs
import HandS.Wide
import PyProof.LongRange
import HandS.Exc
import PyProof.Rows.NestShow
import HandS.SetFor
import HandS.ExcInit
import HandS.ExcField
import HandS.ExcOwn
import HandS.WordsExc
import KE.KExcIs
import HandS.Small
import PyProof.Rows.Range3
import KE.KExcInit
import HandS.MakeKwOnly
import PyProof.ExcBaseAll.LookupError
import PyProof.ExcBaseAll.ValueError
import PyProof.ExcBaseAll.OverflowError
import PyProof.ExcBaseAll.RuntimeError
import PyProof.InstEq
import PyProof.EqKinds
import KE.KEqDict
import PyProof.CallStr
import HandS.More
import HandS.Replace
import HandS.Text
import PyProof.ListStr
import PyProof.StrOps2
import HandS.Comp
import PyProof.Rows.SortStr
import PyProof.Rows.StrMeet
import HandS.List
import HandS.Dict
import HandS.DictEq
import PyProof.SumAny
import KE.SortData
import PyProof.ReprRoads
import HandS.Style
import PyProof.ReprBulk
import HandS.NoneIn
import HandS.Iter
import HandS.Walk
import HandS.WordsDict
import HandS.ExcIs
import HandS.Codes
import HandS.Lambda
import HandS.Zip
import HandS.Finally
import HandS.Conv
import HandS.DeepEq
import HandS.FStr
import HandS.StrSplit
import HandS.Steps
import HandS.StrMore
import KE.RegKIsAll
import KE.KOpsOwn
import HandS.TupSets
import PyProof.SeqIndex
import HandS.TryOnly
import HandS.RaiseMore
import HandS.Star
import HandS.EndTab
import KE.KNestM
import HandS.Deep
import HandS.FltList
import HandS.Base
import HandS.Call
import PyProof.FactsAll.dict_1
import PyProof.FactsAll.subtypes_4
import PyProof.FactsAll.subtypes_3
import HandS.GenList
import HandS.Sort
import KE.KDictZip
import HandS.DictTup
import HandS.Flow
import HandS.OwnEq
import PySem.Challenge.RW_gaplesskeys_k54_wrong_taking_back
set_option Elab.async false
set_option linter.all false
set_option maxRecDepth 100000
set_option maxHeartbeats 4000000
/-! own rules: own operators, long ranges, a class held by a local name, a classmethod without arguments -/
namespace Jg
open PySem PySem.Spec PyProof.Rows L2
section
variable {X : Cx} {CX : CXT} {n k : Nat} {C f : Addr} {fd : FuncData} {ps : List Str} {sp : Sp} {E : XK} {dvs : List V} {ds : List Value}
/-- what an own method must be to serve an operator -/
structure Own (K : PySem.W.Frag) (C : Addr) (m : Str) (f : Addr) : Prop where
  at_ : PySem.W.findIn K (.ref C) m = some (some (.ref f))
  fn : PySem.W.isFn K (.ref f) = true
theorem back_of {pins : List (Addr × Obj)} {σ : L2.St} {Q : VK} {v : Value} {s : Shared} (h : EP X pins σ Q v s) : PySem.W.CmpBack (EP X pins σ Q) v s := by
  obtain ⟨x, H', I, r, q⟩ := h
  cases v <;> first
    | exact ⟨x, H', I, r, q⟩
    | (exfalso; cases x <;> simp [L2.RelV] at r)
/-- x & y, x + y .. of two instances of the class -/
def rOwnB (C : Addr) (sp : Sp) (E : XK) : R2 := fun x y H Q => ∃ a b dx fs dy gs, x = .ref a ∧ y = .ref b ∧ H a = some (.ins C dx fs) ∧ H b = some (.ins C dy gs) ∧ sp [.ref a, .ref b] H Q E
theorem op_ownB {op : Operator} (F : FnOk X.prog X.w X.K X.mg X.base CX n f fd ps sp) (hr : Room n X.A) (o : Own X.K C (PySem.dunder op.info.2) f) (hc : PySem.W.selfFirst X.K C = true) (hb : Binds X.K fd ps []) (hx : Passes CX X E) :
    OpR X (binaryOp op) (rOwnB C sp E) := by
  intro pins s σ H x y v u Q I rx ry h
  obtain ⟨a, b, dx, fs, dy, gs, rfl, rfl, ha, hb', q⟩ := h
  cases rx
  cases ry
  obtain ⟨mA, J, _⟩ := ins_get I.hok ha
  obtain ⟨od, J, _⟩ := J.look
  obtain ⟨mB, J', _⟩ := ins_get I.hok hb'
  obtain ⟨od', J', _⟩ := J'.look
  obtain ⟨m, hF⟩ := I.fr
  refine PySem.W.binop_K (op := op) hF I.ok.mod.kin J J'.type hc o.at_ o.fn ?_
  exact wpAny_mono (run_fn (us := [.ref a, .ref b]) (vs := [.ref a, .ref b]) F hr hb .nil hx I (.cons rfl (.cons rfl .nil)) q) (fun _ _ z => back_of z) fun _ _ z => z
end
/-! ### cls(e, ..), cls a local name that holds the class -/
def tMakeL (i : Nat) (C : Addr) (sp : Sp) (dvs : List V) (E : XK) (t : TA) : TE := fun σ H Q => σ[i]? = some (some (.ref C)) ∧ tMake C sp dvs E t σ H Q
section
variable {X : Cx} {CX : CXT} {k i : Nat} {C f : Addr} {fd : FuncData} {ps : List Str} {sp : Sp} {dvs : List V} {ds : List Value} {E : XK} {x : Str} {p pos : Pos} {e : Expr} {es : List Expr} {t : TA}
theorem pe_makeL (M : Mk X.K C f) (F : FnOk X.prog X.w X.K X.mg X.base CX k f fd ps sp) (hr : Room (k + 1) X.A) (hN : X.N[i]? = some x) (hv : Vis X.env.scope x) (hb : Binds X.K fd ps ds) (hd : Vals dvs ds) (hx : Passes CX X E) (ha : PA X (e :: es) t)
    (hdb : (x == ("__debug__" : Str)) = false := by decide) (hcd : (x == ("__classdict__" : Str)) = false := by decide)
    (he : starEach (e :: es) X.env = (false, eval e X.env) :: starEach es X.env := by rfl) (hpl : (backTo pos (starEach es X.env)).any (·.1) = false := by rfl) : PE X (.Call (.Name x p) (e :: es) [] pos) (tMakeL i C sp dvs E t) := by
  refine ⟨fun pins s σ H Q I h => ?_⟩
  obtain ⟨hs, ht⟩ := h
  refine wpAny_Call_Name_kw (thn ((pe_var (pos := p) hN hv hdb hcd).run pins s σ H (fun v H1 => v = .ref C ∧ H1 = H) I ⟨.ref C, hs, rfl, rfl⟩) fun u s1 ⟨v, H1, I1, r1, q1⟩ => ?_)
  obtain ⟨rfl, rfl⟩ := q1
  cases r1
  refine PySem.W.callWith_K (h₀ := X.base) I.ok.mod.kin M.kp (thn (ha.run pos pins s1 σ _ _ I1 ht) fun us s2 ⟨vs, H2, I2, r, q⟩ => ⟨I2.kIn, ?_⟩) he hpl
  exact run_make M F hr hb hd hx I2 r q
end
/-! ### C.m() , m a classmethod, no argument -/
section
open ClX
variable {X : Cx} {CX : CXT} {k : Nat} {C p g : Addr} {mc : Value} {sp : Sp} {E : XK} {o : Expr} {m : Str} {pos apos : Pos} {ta : TE} {pl : Sem Bool}
theorem pe_cmeth0 (he : PE X o ta) (r : CRead X.K C mc) (c : CMet X.K C mc m p g) (F : FnR X.prog X.w X.K X.mg X.base CX k g sp) (hr : Room k X.A) (hx : Passes CX X E)
    (ht : eval (.Call (.Attribute o m apos) [] [] pos) X.env = (do
      let ov ← eval o X.env
      standAt apos.atName
      let (f, first) ← holding [ov] (getMethod ov m pl)
      callWith pos f first (backTo pos (starEach [] X.env)) (backToKw pos (keywordEach [] X.env))) := by rfl) :
    PE X (.Call (.Attribute o m apos) [] [] pos) (tCMeth C sp E ta tNil) := by
  refine ⟨fun pins s σ H Q I h => ?_⟩
  refine PySem.W.methodCall_KW (pl := pl) (thn (he.run pins s σ H _ I h) fun u s1 ⟨x, H1, I1, rx, ex, q⟩ => ?_) ht
  subst ex
  obtain rfl : u = Value.ref C := rx
  refine getmethcm_ok I1 r c fun s2 I2 => ?_
  refine PySem.W.callWith_M0 (K := X.K) (first := []) ⟨pin_at I2, I2.kIn⟩ c.fi ?_
  exact run_cm F hr hx I2 .nil q
end
/-! ### range(a, b) of any size -/
theorem turn_long {P : Program} {w : World} {K : PySem.W.Frag} {tg : Expr} (it : Addr) (lo : Int) (n : Nat) : Turn P w K tg (Itr lo n) [it] it (fun i h => IsLongIter h it (lo + (i : Nat) * 1) ((n : Int) - (i : Nat)) 1) where
  mem := by simp
  obj := fun i h st b hb => by
    have e : b = it := by simpa using hb
    subst e
    exact ⟨_, st, fun v z => by
      have z' : Data.fields _ = Data.cell v := z
      cases z'⟩
  keep := fun i h h' st k => k it (by simp) _ st
  item := by
    intro X hP hw hK hc i pins s σ H E I hf st hg
    subst hP hw hK
    obtain ⟨f0, f1, f2, f3, f4, f5⟩ := hf it (by simp)
    have W := Walks.longrange (prog := X.prog) (w := X.w) (I.ok.hd hc) it lo 1 n
    refine W.item i s _ _ hg st fun v h' tk hv st' kk => ?_
    obtain ⟨t, rfl⟩ := hv
    have I1 : Inv X pins σ H { s with heap := h', toks := tk } := I.turned (fun b o hb e => kk b o (by simpa using hb) e) f0 f1 f3 f4 f5
    refine ⟨_, rfl, go_of (s := { s with heap := h', toks := tk }) (n := "longrange_iterator") st' rfl rfl (by decide) ⟨.int (lo + i), H, I1, ⟨t, ?_⟩, ⟨rfl, rfl⟩, st', fun b hb => (hf b hb).1⟩⟩
    rw [Int.mul_one]
  done := by
    intro X hP hw hK hc i pins s σ H E I hf st hg
    subst hP hw hK
    obtain ⟨f0, f1, f2, f3, f4, f5⟩ := hf it (by simp)
    exact wpAny_pyNext_long_end (I.ok.hd hc) st (by have : n ≤ i := hg; omega) fun h' eb => ⟨rfl, I.turned (t' := s.toks) (fun b o hb e => eb b o hb e) f0 f1 f3 f4 f5⟩
  self := fun _ _ _ _ _ st h => wpAny_pyIter_longiter st h
section
variable {X : Cx} {tg : Expr}
theorem rsize_nat (lo hi : Int) : (((hi - lo).toNat : Nat) : Int) = Builtin.Range.rangeSize lo hi 1 := by
  rw [rangeSize_one]; split <;> omega
theorem rangeW_it {pins : List (Addr × Obj)} {σ : L2.St} {H : Hp} {s : Shared} {R : It → Hp → Prop} {E : Value → Shared → Prop} {lo hi : Int} {t u v : Tok} {tk : Nat} (I : Inv X pins σ H s)
    (q : R (Itr lo (hi - lo).toNat) H) : wpAny (model X.prog X.w) X.A (pyIter (.ref s.heap.objs.size)) (PIE X pins σ tg R) E { s with heap := s.heap.push { cls := .type "range", data := .fields #[.int lo t, .int hi u, .int 1 v] }, toks := tk } := by
  have I1 : Inv X pins σ H { s with heap := s.heap.push { cls := .type "range", data := .fields #[.int lo t, .int hi u, .int 1 v] }, toks := tk } := I.kept fun b o e => Heap.get?_push_of_some _ e
  cases hs : Builtin.Range.small lo hi 1 with
  | true =>
    refine wpAny_pyIter_range (IsRange.new ..) hs ?_
    refine ⟨(s.heap.push { cls := .type "range", data := .fields #[.int lo t, .int hi u, .int 1 v] }).objs.size, [(s.heap.push { cls := .type "range", data := .fields #[.int lo t, .int hi u, .int 1 v] }).objs.size], _, _, H, rfl,
      I1.kept (t' := tk) fun b o e => Heap.get?_push_of_some _ e, turn_range _ lo (hi - lo).toNat, ?_, fun b hb => ?_, q⟩
    · have e1 : lo + ((0 : Nat) : Int) * 1 = lo := by simp
      have e2 : (((hi - lo).toNat : Nat) : Int) - ((0 : Nat) : Int) = Builtin.Range.rangeSize lo hi 1 := by rw [rsize_nat]; simp
      show IsRangeIter _ _ (lo + ((0 : Nat) : Int) * 1) ((((hi - lo).toNat : Nat) : Int) - ((0 : Nat) : Int)) 1
      rw [e1, e2]
      exact Heap.get?_push_size _ rfl
    · have e : b = (s.heap.push { cls := .type "range", data := .fields #[.int lo t, .int hi u, .int 1 v] }).objs.size := by simpa using hb
      subst e
      exact I1.fpOk (Nat.le_refl _) (I1.hok.fresh (Nat.le_refl _))
  | false =>
    refine wpAny_pyIter_longrange (IsRange.new ..) hs ?_
    refine ⟨(s.heap.push { cls := .type "range", data := .fields #[.int lo t, .int hi u, .int 1 v] }).objs.size, [(s.heap.push { cls := .type "range", data := .fields #[.int lo t, .int hi u, .int 1 v] }).objs.size], _, _, H, rfl,
      I1.kept (t' := tk) fun b o e => Heap.get?_push_of_some _ e, turn_long _ lo (hi - lo).toNat, ?_, fun b hb => ?_, q⟩
    · have e1 : lo + ((0 : Nat) : Int) * 1 = lo := by simp
      have e2 : (((hi - lo).toNat : Nat) : Int) - ((0 : Nat) : Int) = Builtin.Range.rangeSize lo hi 1 := by rw [rsize_nat]; simp
      show IsLongIter _ _ (lo + ((0 : Nat) : Int) * 1) ((((hi - lo).toNat : Nat) : Int) - ((0 : Nat) : Int)) 1
      rw [e1, e2]
      exact Heap.get?_push_size _ rfl
    · have e : b = (s.heap.push { cls := .type "range", data := .fields #[.int lo t, .int hi u, .int 1 v] }).objs.size := by simpa using hb
      subst e
      exact I1.fpOk (Nat.le_refl _) (I1.hok.fresh (Nat.le_refl _))
def iRng2W (ta : TA) : TI := fun σ H R => ta σ H fun vs H1 => ∃ i j : Int, vs = [.int i, .int j] ∧ R (Itr i (j - i).toNat) H1
theorem pi_range2W {a b : Expr} {ta : TA} {p pos : Pos} (hg : Gl X "range") (hm : X.mg "range" = none) (ha : PA X [a, b] ta) (hs : starEach [a, b] X.env = [(false, eval a X.env), (false, eval b X.env)] := by rfl) (hs2 : starEach [b] X.env = [(false, eval b X.env)] := by rfl) :
    PI X tg (.Call (.Name "range" p) [a, b] [] pos) (iRng2W ta) := by
  refine ⟨fun pins s σ H R I h => ?_⟩
  refine Call_ (ld_blt I hg hm boot_range (PyProof.Rows.callWith_type1 (thn (ha.run pos pins s σ H _ I h) fun us s1 ⟨vs, H1, I1, r1, q1⟩ => ?_) (by rw [hs, hs2]) (by rw [hs2]; rfl)))
  obtain ⟨i, j, e, q⟩ := q1
  subst e
  cases r1 with
  | cons r rr =>
    cases rr with
    | cons r' rr =>
      cases rr
      obtain ⟨t, rfl⟩ := r
      obtain ⟨t', rfl⟩ := r'
      exact call_range_2 (rangeW_it I1 q)
end
end Jg
/-! defs that are called where no repr is under way, repr of data, and the law's end over such a def -/
namespace Jg
open PySem PySem.Spec PyProof.Rows L2
/-- a def's promise where no repr is under way -/
structure FnG (P : Program) (w : World) (K : PySem.W.Frag) (mg : Str → Option Value) (base : Heap) (CX : CXT) (k : Nat) (f : Addr) (fd : FuncData) (ps : List Str) (sp : Sp) : Prop where
  len : ∀ vs H Q E, sp vs H Q E → vs.length = ps.length
  run : ∀ (A : Around), A.guards = some [] → ∀ (outer : List Env) (s : Shared) (H : Hp) (args : Args) (us : List Value) (vs : List V) (Q : VK) (E : XK), Room k A → Env0 P w K mg base A outer s H → BindsTo s fd args (ps.zip us) → Vals vs us → sp vs H Q E →
    codeAny (model P w) A (.call (.ref f) args) (CR CX outer P w H s Q E) s
theorem FnG.of {P : Program} {w : World} {K : PySem.W.Frag} {mg : Str → Option Value} {base : Heap} {CX : CXT} {k : Nat} {f : Addr} {fd : FuncData} {ps : List Str} {sp : Sp} (F : FnOk P w K mg base CX k f fd ps sp) : FnG P w K mg base CX k f fd ps sp :=
  ⟨F.len, fun A _ => F.run A⟩
theorem FnG.mono {P : Program} {w : World} {K : PySem.W.Frag} {mg : Str → Option Value} {base : Heap} {CX : CXT} {j k : Nat} {f : Addr} {fd : FuncData} {ps : List Str} {sp : Sp} (F : FnG P w K mg base CX j f fd ps sp) (h : j ≤ k) :
    FnG P w K mg base CX k f fd ps sp := ⟨F.len, fun A g outer s H args us vs Q E hr => F.run A g outer s H args us vs Q E (hr.mono h)⟩
section
variable {X : Cx} {CX : CXT} {k : Nat} {f : Addr} {fd : FuncData} {ps : List Str} {sp : Sp} {dvs : List V} {ds : List Value} {E : XK} {x : Str} {p pos : Pos} {e : Expr} {es : List Expr} {t : TA}
theorem run_fnG {pins : List (Addr × Obj)} {σ : L2.St} {H : Hp} {s : Shared} {Q : VK} {us : List Value} {vs : List V} (F : FnG X.prog X.w X.K X.mg X.base CX k f fd ps sp) (g : X.A.guards = some []) (hr : Room k X.A) (hb : Binds X.K fd ps ds) (hd : Vals dvs ds) (hx : Passes CX X E)
    (I : Inv X pins σ H s) (r : Vals vs us) (h : sp (vs ++ dvs) H Q E) : wpAny (model X.prog X.w) X.A (call (.ref f) us) (EP X pins σ Q) X.xe s := by
  have both := r.append hd
  have hl : (us ++ ds).length = ps.length := both.length.symm.trans (F.len _ _ _ _ h)
  have go := F.run X.A g X.stack s H ⟨us, []⟩ (us ++ ds) (vs ++ dvs) Q E hr I.env0 (hb s us I.kIn hl) both h
  refine wpAny_call (codeAny_mono go fun r s' hq => ?_)
  match r, hq with
  | .error e, hq => exact hx pins σ H s e s' I hq
  | .ok (.ret u), hq => exact I.after hq
/-- f(e, ..) -/
theorem pe_callG (F : FnG X.prog X.w X.K X.mg X.base CX k f fd ps sp) (g : X.A.guards = some []) (hr : Room k X.A) (hg : Gl X x) (hm : X.mg x = some (.ref f)) (hk : PySem.W.keepIn X.K (.ref f) = true) (hb : Binds X.K fd ps ds) (hd : Vals dvs ds) (hx : Passes CX X E)
    (ha : PA X (e :: es) t) (hdb : (x == ("__debug__" : Str)) = false := by decide) (he : starEach (e :: es) X.env = (false, eval e X.env) :: starEach es X.env := by rfl) (hpl : (backTo pos (starEach es X.env)).any (·.1) = false := by rfl) :
    PE X (.Call (.Name x p) (e :: es) [] pos) (tCall sp dvs E t) :=
  ⟨fun pins s σ H Q I h => wpAny_Call_Name_kw (ld_glob I hg hm (PySem.W.callWith_K (h₀ := X.base) I.ok.mod.kin hk (thn (ha.run pos pins s σ H _ I h) fun _ _ ⟨_, _, I1, r, q⟩ => ⟨I1.kIn, run_fnG F g hr hb hd hx I1 r q⟩) he hpl) hdb)⟩
end
theorem guards_deeper {A : Around} {e : Env} (h : A.guards = some []) : (A.deeper e).guards = some [] := by
  first | exact h | (unfold Around.deeper; simpa using h)
section
variable {P : Program} {w : World} {K : PySem.W.Frag} {mg : Str → Option Value} {base : Heap}
/-- a def of the text, its body walked where no repr is under way -/
theorem fnG_of {CX : CXT} {k : Nat} {x qual : Str} {st : Stmt} {f : Addr} {fd : FuncData} {N ps : List Str} {sp : Sp} (F : Fun K x qual st f fd) (S : FnScope N ps (defScope st)) (len : ∀ vs H Q E, sp vs H Q E → vs.length = ps.length)
    (hbody : ∀ (cdv : Value) (A : Around) (outer : List Env) (s : Shared) (H : Hp) (vs : List V) (Q : VK) (E : XK), A.guards = some [] → Room k (A.deeper (envOfC qual (defScope st) s.heap.objs.size f cdv)) → sp vs H Q E →
      ∃ t, PSs (cxOf CX P w K mg base N qual (defScope st) f cdv A outer s H E) (defBody st) t ∧ t { nx := fun _ H' => Q .non H', rt := Q } (start N vs) H) : FnG P w K mg base CX (k + 1) f fd ps sp := by
  obtain ⟨oc, od, kV, doc, pm, an, cdv, ct, osl, rfl, lk, hcd⟩ := F.ex
  refine ⟨len, fun A g outer s H args us vs Q E hr e0 hb r hsp => ?_⟩
  have inHeap : K.In s.heap := e0.mod.kin.keeps fun b o e => (e0.bs b o e).1
  have kinds : ∀ y ∈ ps.zip us, (defScope st).names.lookup y.1 = some .local ∨ ((defScope st).names.lookup y.1 = some .cell ∧ ((cellsFrom (s.heap.objs.size + 1) (defScope st).names []).lookup y.1).isSome = true) := fun y hy =>
    (S.par y.1 (List.of_mem_zip hy).1).imp id fun q => ⟨q, PySem.W.cellsFrom_some _ _ _ (.inl q)⟩
  refine codeAny_call_function hr.depth (inHeap _ _ lk) rfl S.co S.gen rfl (PySem.W.codeRec_of inHeap hcd) (hb _ _ _ _ ?_)
  refine wpAny_newFunctionEnv_cells S.kind kinds fun env he s1 y => ?_
  subst he
  obtain ⟨t, ht, hq⟩ := hbody cdv A outer s H vs Q E g (hr.deeper _) hsp
  have I := inv_start (CX := CX) (E := E) S hr.hd e0 (len _ _ _ _ hsp) r y
  refine ⟨(e0.mod.nolimit.keeps fun b o e => (e0.bs b o e).1).keeps y.toInCall.keep, codeAny_func (wpAny_mono (ht.run [] s1 (start N vs) H _ I hq) (fun fl s' hs => ?_) fun _ _ hs => hs)⟩
  match fl, hs with
  | .ret u, ⟨v, _, H', J, rv, q⟩ => exact ⟨v, H', J.os, J.bare, J.base, J.hok, rv, q⟩
  | .next, ⟨_, H', J, q⟩ => exact ⟨.non, H', J.os, J.bare, J.base, J.hok, rfl, q⟩
  | .brk, ⟨_, _, _, q⟩ => exact False.elim q
  | .cont, ⟨_, _, _, q⟩ => exact False.elim q
end
/-! ### repr of data -/
theorem noDict : ∀ (K : PySem.W.Frag) (H : Hp) (d : PyData) (v : V), Dp K H v d → d.hasDict = false := by
  intro K H d v h
  refine Dp.rec (motive_1 := fun _ d _ => d.hasDict = false) (motive_2 := fun _ ds _ => PyData.hasDictAll ds = false) ?_ ?_ ?_ ?_ ?_ ?_ ?_ ?_ h
  · rfl
  · intro b; rfl
  · intro i; rfl
  · intro x; rfl
  · intro a xs ds _ _ ih; exact ih
  · intro a xs ds _ _ ih; exact ih
  · rfl
  · intro v vs d ds _ _ h1 h2
    show (PyData.hasDict d || PyData.hasDictAll ds) = false
    rw [h1, h2]; rfl
/-! ### the end -/
theorem law_callG {P : Program} {w : World} {K : PySem.W.Frag} {mg mb : Str → Option Value} {CX : CXT} {k : Nat} {fa a : Addr} {fd : FuncData} {x : Str} {sp : Sp} {s₁ : Shared} {vs : List Value} {ns : List Int}
    (KX : K.In s₁.heap) (hns : s₁.heap.Ns mainGlobals mg) (hb : s₁.heap.Ns builtinsNs mb) (hbb : ∀ x : Str, x ≠ "__name__" → mb x = bootBuiltins x) (hlim : s₁.heap.NoLimit) (hg : s₁.gens = #[])
    (ha : s₁.heap.get? a = some { cls := .type "list", data := .seq vs.toArray }) (hi : IntsAre vs ns) (hl : ns.length ≤ sizeLine) (hr : Room k callerA)
    (F : ∀ base : Heap, K.In base → base.Ns mainGlobals mg → FnG P w K mg base CX k fa fd [x] sp) (hbind : ∀ (s : Shared) (u : Value), BindsTo s fd ⟨[u], []⟩ [(x, u)])
    (hsp : ∀ H : Hp, Only H → SqL K H a (ns.map V.int) → sp [.ref a] H (fun v _ => v = .bl true) fun _ _ _ => False)
    (hCX : ∀ H e s', CX [] H s₁ (fun _ _ _ => False) e s' → False) :
    codeAny (model P w) callerA (.call (.ref fa) ⟨[.ref a], []⟩) (fun r s' => r = .ok (.ret (.bool true)) ∧ OldK s₁.heap s'.heap ∧ s'.os = s₁.os ∧ AllBare s'.gens) s₁ := by
  have lenV := hi.length
  let scriptO : Obj := { cls := .type "list", data := .seq vs.toArray }
  -- what is tracked: the script, unless it is one of the module's own objects
  let H : Hp := fun b => if b = a ∧ K.lookup a = none then some (.frz scriptO (.lst (ns.map V.int))) else none
  have H1 : ∀ b u, H b = some u → b = a ∧ K.lookup a = none ∧ u = .frz scriptO (.lst (ns.map V.int)) := fun b u e => by
    show b = a ∧ _ ∧ _
    by_cases c : b = a ∧ K.lookup a = none
    · have e' : some (HO.frz scriptO (.lst (ns.map V.int))) = some u := (if_pos c).symm.trans e
      exact ⟨c.1, c.2, (Option.some.inj e').symm⟩
    · have e' : (none : Option HO) = some u := (if_neg c).symm.trans e
      cases e'
  have only : Only H := fun b => by
    cases e : H b with
    | none => exact .inl rfl
    | some u =>
      obtain ⟨_, _, rfl⟩ := H1 b u e
      exact .inr ⟨_, _, rfl⟩
  have seq : SqL K H a (ns.map V.int) := by
    cases hk : K.lookup a with
    | none => exact .inl (.inr ⟨scriptO, if_pos ⟨rfl, hk⟩⟩)
    | some o =>
      have e := KX a o hk
      rw [ha] at e
      cases e
      exact .inr ⟨_, vs.toArray, _, hk, rfl, rfl, rfl, by rw [List.size_toArray, lenV]; exact hl, by simpa using vals_ints hi⟩
  have ok : HOk P w H s₁.heap := fun b u e => by
    obtain ⟨rfl, _, rfl⟩ := H1 b u e
    exact ⟨ha, by rw [List.length_map]; exact hl, vs, _, vals_ints hi, ha⟩
  -- objects of other kinds than the script are not tracked
  have dictFree : ∀ {b : Addr} {o : Obj} {es : Array DictEntry} {ep : Nat}, s₁.heap.get? b = some o → o.data = .dict es ep → H b = none := fun {b o es ep} e d => by
    cases q : H b with
    | none => rfl
    | some u =>
      obtain ⟨rfl, _, _⟩ := H1 b u q
      rw [ha] at e
      cases e
      exact nomatch (show Data.seq vs.toArray _ = Data.dict es ep from d)
  have ns0 : ∀ {b : Addr} {m : Str → Option Value}, s₁.heap.Ns b m → (hidT s₁.heap H).Ns b m := fun {b m} ⟨o, es, ep, e, d, r⟩ => ⟨o, es, ep, hidT_get e (dictFree e d), d, r⟩
  have kin0 : K.In (hidT s₁.heap H) := fun b o e => hidT_get (KX b o e) (by
    cases q : H b with
    | none => rfl
    | some u =>
      obtain ⟨rfl, hk, _⟩ := H1 b u q
      rw [hk] at e; cases e)
  have md : Mod K mg (hidT s₁.heap H) := ⟨kin0, ns0 hns, ⟨mb, ns0 hb, hbb⟩, let ⟨mc, c1, c2⟩ := hlim; ⟨mc, ns0 c1, c2⟩⟩
  have e0 : Env0 P w K mg (hidT s₁.heap H) callerA [] s₁ H := ⟨rfl, md, fun b o e => of_hidT e, Nat.le_of_eq (hidT_size _ _), trivial, fun b hb => absurd (show b ∈ ([] : List Addr) from hb) (by simp), ok, .of_eq hg⟩
  have go := (F _ kin0 (ns0 hns)).run callerA rfl [] s₁ H ⟨[.ref a], []⟩ [.ref a] [.ref a] _ _ hr e0 (hbind s₁ (.ref a)) (.cons rfl .nil) (hsp H only seq)
  refine codeAny_mono go fun r s' h => ?_
  match r, h with
  | .error e, h => exact (hCX H e s' h).elim
  | .ok (.ret u), ⟨v, H', os, bare, un, hok', r', q⟩ =>
    have q' : v = .bl true := q
    subst q'
    cases (show u = Value.bool true from r')
    refine ⟨rfl, OldK.of_keep fun b o e => ?_, os, bare⟩
    cases q : H b with
    | none => exact un.keep b o e q (fun z => absurd (show b ∈ ([] : List Addr) from z) (by simp)) (by simp)
    | some u =>
      obtain ⟨rfl, _, rfl⟩ := H1 b u q
      have w2 := (hok' _ _ (un.frzs _ _ _ q)).1
      rw [ha] at e
      cases e
      exact w2
theorem walk_ofG {l : PySem.W.OpenLaw} {n k : Nat} {q : Program} {loose : List Str} {XP : (Str → Option Value) → Heap → Prop} {YP : World → Heap → Prop} {d : DefRec} {K : Params → PySem.W.Frag} {CX : World → CXT} {sp : World → Sp} {x : Str}
    (hn : l.most = some n) (hn2 : n ≤ sizeLine) (hdf : d.params.defaults = []) (hr : Room k callerA)
    (hY : ∀ (w : World) (h : Heap), YP w h → (K w.params).In h)
    (F : ∀ (w : World) (mg : Str → Option Value) (fa : Addr) (h : Heap), (K w.params).In h → h.Ns mainGlobals mg → mg d.name = some (.ref fa) → XP mg h →
      ∃ fd : FuncData, (∀ (s : Shared) (u : Value), BindsTo s fd ⟨[u], []⟩ [(x, u)]) ∧
        ∀ base : Heap, (K w.params).In base → base.Ns mainGlobals mg → FnG l.prog w (K w.params) mg base (CX w) k fa fd [x] (sp w))
    (hsp : ∀ (w : World) (H : Hp) (a : Addr) (ns : List Int), ns.length ≤ n → Only H → SqL (K w.params) H a (ns.map V.int) → sp w [.ref a] H (fun v _ => v = .bl true) fun _ _ _ => False)
    (hCX : ∀ (w : World) (H : Hp) (s : Shared) (e : Value) (s' : Shared), CX w [] H s (fun _ _ _ => False) e s' → False) :
    PySem.W.WalkO q loose XP YP l.row.toRowW d [] (fun f vs => PySem.call f vs) :=
  Att.attach_call hn hdf fun w _ s₁ mg mb fa _ _ _ _ a vs ns G Y _ _ _ hmg hobj hints hlen hg =>
    let ⟨_, hb, hF⟩ := F w mg fa _ (hY w _ Y) G.T.g hmg G.X
    law_callG (hY w _ Y) G.T.g G.T.b G.T.builtins G.T.nolimit hg hobj hints (Nat.le_trans hlen hn2) hr hF hb (fun H hO hS => hsp w H a ns hlen hO hS) fun H e s' => hCX w H s₁ e s'
/-- a number that the top keeps under a name, whatever its token -/
theorem loose_int {p : Program} {lv : List (Str × PySem.W.WData)} {mg : Str → Option Value} {h : Heap} {x : Str} {i : Int} (X : PySem.W.XL p lv mg h) (hm : (x, PySem.W.WData.int i) ∈ lv) : ∃ u, mg x = some u ∧ L2.RelV (.int i) u := by
  obtain ⟨v, e, r⟩ := X.2.val _ hm
  cases r
  exact ⟨_, e, _, rfl⟩
end Jg
/-! defs, methods, properties and classes by their names: addresses hidden -/
namespace Jg
open PySem PySem.Spec PyProof.Rows L2
theorem iteFe {A D : Prop} {b : Bool} (e : b = false) (h : D) : if b = true then A else D := by rw [e]; exact iteF h
theorem iteTe {A D : Prop} {b : Bool} (e : b = true) (h : A) : if b = true then A else D := by rw [e]; exact iteT h
/-- a def of the module as the top leaves it -/
structure DefK (K : PySem.W.Frag) (mg : Str → Option Value) (x : Str) (st : Stmt) : Prop where
  ex : ∃ f fd, Fun K x x st f fd ∧ mg x = some (.ref f)
theorem DefK.of {K : PySem.W.Frag} {h : Heap} {mg : Str → Option Value} {x : Str} {st : Stmt} {f : Addr} {oc : Value} {od an : Option Addr} {osl : Array (Option Value)} {kV doc pm cdv ct : Value} (X : K.In h) (G : h.Ns mainGlobals mg)
    (a : PySem.W.nsIn K mainGlobals x = some (some (.ref f))) (l : K.lookup f = some ⟨oc, od, .func (PySem.W.fnOf x x (defArgs st) (defBody st) (defScope st) .none kV doc pm an cdv ct), osl⟩)
    (c : PySem.W.codeIn K cdv x = true) (k : PySem.W.keepIn K (.ref f) = true) : DefK K mg x st := ⟨f, _, fun_mk l c k, PySem.W.mg_of X G a⟩
/-- a method of the class at C -/
structure MetK (K : PySem.W.Frag) (C : Addr) (m qual : Str) (st : Stmt) : Prop where
  ex : ∃ f fd, Fun K m qual st f fd ∧ PySem.W.findIn K (.ref C) m = some (some (.ref f)) ∧ PySem.W.isFn K (.ref f) = true
theorem MetK.of {K : PySem.W.Frag} {C : Addr} {m qual : Str} {st : Stmt} {f : Addr} {oc : Value} {od an : Option Addr} {osl : Array (Option Value)} {kV doc pm cdv ct : Value}
    (a : PySem.W.findIn K (.ref C) m = some (some (.ref f))) (i : PySem.W.isFn K (.ref f) = true) (l : K.lookup f = some ⟨oc, od, .func (PySem.W.fnOf m qual (defArgs st) (defBody st) (defScope st) .none kV doc pm an cdv ct), osl⟩)
    (c : PySem.W.codeIn K cdv qual = true) (k : PySem.W.keepIn K (.ref f) = true) : MetK K C m qual st := ⟨f, _, fun_mk l c k, a, i⟩
/-- a property of the class at C -/
structure PrpK (K : PySem.W.Frag) (C : Addr) (m qual : Str) (st : Stmt) : Prop where
  ex : ∃ p f fd, Fun K m qual st f fd ∧ PropOf K C m p f
theorem PrpK.of {K : PySem.W.Frag} {C : Addr} {m qual : Str} {st : Stmt} {p f : Addr} {rest : List Value} {oc : Value} {od an : Option Addr} {osl : Array (Option Value)} {kV doc pm cdv ct : Value}
    (a : PySem.W.findIn K (.ref C) m = some (some (.ref p))) (g : PySem.W.specialIn K (.ref p) "__get__" = some (some (.builtin "property.__get__"))) (tk : PySem.W.takesIn K (.ref p) = some true) (rc : PySem.W.recIn K p "property" = some (.ref f :: rest))
    (l : K.lookup f = some ⟨oc, od, .func (PySem.W.fnOf m qual (defArgs st) (defBody st) (defScope st) .none kV doc pm an cdv ct), osl⟩)
    (c : PySem.W.codeIn K cdv qual = true) (k : PySem.W.keepIn K (.ref f) = true) : PrpK K C m qual st := ⟨p, f, _, fun_mk l c k, ⟨a, g, tk, rest, rc⟩⟩
/-- a classmethod of the class at C -/
structure CmtK (K : PySem.W.Frag) (C : Addr) (mc : Value) (m qual : Str) (st : Stmt) : Prop where
  ex : ∃ p f fd, Fun K m qual st f fd ∧ ClX.CRead K C mc ∧ ClX.CMet K C mc m p f
theorem CmtK.of {K : PySem.W.Frag} {C : Addr} {mc : Value} {m qual : Str} {st : Stmt} {p f : Addr} {rest : List Value} {oc : Value} {od an : Option Addr} {osl : Array (Option Value)} {kV doc pm cdv ct : Value}
    (rd : PySem.W.readsIn K C mc = true) (ga : PySem.W.specialIn K (.ref C) "__getattribute__" = some (some (.builtin "type.__getattribute__")))
    (a : PySem.W.findCls K (.ref C) mc m = some (.get (.builtin "classmethod.__get__") (.ref p) .none (.ref C))) (rc : PySem.W.recIn K p "classmethod" = some (.ref f :: rest)) (fi : PySem.W.fnIn K f = true)
    (l : K.lookup f = some ⟨oc, od, .func (PySem.W.fnOf m qual (defArgs st) (defBody st) (defScope st) .none kV doc pm an cdv ct), osl⟩)
    (c : PySem.W.codeIn K cdv qual = true) (k : PySem.W.keepIn K (.ref f) = true) : CmtK K C mc m qual st := ⟨p, f, _, fun_mk l c k, ⟨rd, ga⟩, ⟨a, ⟨rest, rc⟩, fi⟩⟩
section
variable (P : Program) (w : World) (K : PySem.W.Frag) (mg : Str → Option Value) (base : Heap) (CX : CXT) (k : Nat)
/-- a def that may be called by its name -/
structure Cal (x : Str) (sp : Sp) : Prop where
  ex : ∃ f fd ps, FnOk P w K mg base CX k f fd ps sp ∧ mg x = some (.ref f) ∧ PySem.W.keepIn K (.ref f) = true ∧ Binds K fd ps []
structure CalG (x : Str) (sp : Sp) : Prop where
  ex : ∃ f fd ps, FnG P w K mg base CX k f fd ps sp ∧ mg x = some (.ref f) ∧ PySem.W.keepIn K (.ref f) = true ∧ Binds K fd ps []
/-- a method of the class at C -/
structure Met (C : Addr) (m : Str) (sp : Sp) : Prop where
  ex : ∃ f fd ps, FnOk P w K mg base CX k f fd ps sp ∧ PySem.W.findIn K (.ref C) m = some (some (.ref f)) ∧ PySem.W.isFn K (.ref f) = true ∧ PySem.W.keepIn K (.ref f) = true ∧ Binds K fd ps []
structure Prp (C : Addr) (m : Str) (sp : Sp) : Prop where
  ex : ∃ p f fd ps, FnOk P w K mg base CX k f fd ps sp ∧ PropOf K C m p f ∧ Binds K fd ps []
structure Cmt (C : Addr) (mc : Value) (m : Str) (sp : Sp) : Prop where
  ex : ∃ p f fd ps, FnOk P w K mg base CX k f fd ps sp ∧ ClX.CRead K C mc ∧ ClX.CMet K C mc m p f ∧ Binds K fd ps []
end
theorem CalG.of {P : Program} {w : World} {K : PySem.W.Frag} {mg : Str → Option Value} {base : Heap} {CX : CXT} {k : Nat} {x : Str} {sp : Sp} (c : Cal P w K mg base CX k x sp) : CalG P w K mg base CX k x sp :=
  let ⟨f, fd, ps, F, a⟩ := c.ex
  ⟨f, fd, ps, .of F, a⟩
/-- how a def of the text binds its arguments -/
def BindOk (x qual : Str) (st : Stmt) (ps : List Str) : Prop :=
  ∀ (kV doc pm : Value) (an : Option Addr) (cdv ct : Value) (us : List Value), us.length = ps.length → bindArgs (PySem.W.fnOf x qual (defArgs st) (defBody st) (defScope st) .none kV doc pm an cdv ct) ⟨us, []⟩ = pure (ps.zip us)
/-- what a body must show -/
def BodyOk (CX : CXT) (P : Program) (w : World) (K : PySem.W.Frag) (mg : Str → Option Value) (base : Heap) (N : List Str) (qual : Str) (st : Stmt) (f : Addr) (k : Nat) (sp : Sp) : Prop :=
  ∀ (cdv : Value) (A : Around) (outer : List Env) (s : Shared) (H : Hp) (vs : List V) (Q : VK) (E : XK), Room k (A.deeper (envOfC qual (defScope st) s.heap.objs.size f cdv)) → sp vs H Q E →
      ∃ t, PSs (cxOf CX P w K mg base N qual (defScope st) f cdv A outer s H E).nox (defBody st) t ∧ t { nx := fun _ H' => Q .non H', rt := Q } (start N vs) H
section
variable {P : Program} {w : World} {K : PySem.W.Frag} {mg : Str → Option Value} {base : Heap} {k : Nat} {C : Addr} {mc : Value} {x m qual : Str} {st : Stmt} {N ps : List Str} {sp : Sp}
theorem DefK.cal (D : DefK K mg x st) (S : FnScope N ps (defScope st)) (b : BindOk x x st ps) (len : ∀ vs H Q E, sp vs H Q E → vs.length = ps.length) (hb : ∀ f, BodyOk CX0 P w K mg base N x st f k sp) : Cal P w K mg base CX0 (k + 1) x sp :=
  let ⟨f, fd, F, m⟩ := D.ex
  ⟨f, fd, ps, F.ok S len (hb f), m, F.kp, F.binds b⟩
theorem DefK.calG (D : DefK K mg x st) (S : FnScope N ps (defScope st)) (b : BindOk x x st ps) (len : ∀ vs H Q E, sp vs H Q E → vs.length = ps.length)
    (hb : ∀ (f : Addr) (cdv : Value) (A : Around) (outer : List Env) (s : Shared) (H : Hp) (vs : List V) (Q : VK) (E : XK), (cxOf CX0 P w K mg base N x (defScope st) f cdv A outer s H E).nox.A.guards = some [] → Room k (A.deeper (envOfC x (defScope st) s.heap.objs.size f cdv)) → sp vs H Q E →
      ∃ t, PSs (cxOf CX0 P w K mg base N x (defScope st) f cdv A outer s H E).nox (defBody st) t ∧ t { nx := fun _ H' => Q .non H', rt := Q } (start N vs) H) : CalG P w K mg base CX0 (k + 1) x sp :=
  let ⟨f, fd, F, m⟩ := D.ex
  ⟨f, fd, ps, fnG_of F S len fun cdv A outer s H vs Q E g hr h =>
    let ⟨t, a, q⟩ := hb f cdv A outer s H vs Q E (guards_deeper g) hr h
    ⟨t, a.nox, q⟩, m, F.kp, F.binds b⟩
theorem MetK.met (D : MetK K C m qual st) (S : FnScope N ps (defScope st)) (b : BindOk m qual st ps) (len : ∀ vs H Q E, sp vs H Q E → vs.length = ps.length) (hb : ∀ f, BodyOk CX0 P w K mg base N qual st f k sp) : Met P w K mg base CX0 (k + 1) C m sp :=
  let ⟨f, fd, F, a, i⟩ := D.ex
  ⟨f, fd, ps, F.ok S len (hb f), a, i, F.kp, F.binds b⟩
theorem PrpK.prp (D : PrpK K C m qual st) (S : FnScope N ps (defScope st)) (b : BindOk m qual st ps) (len : ∀ vs H Q E, sp vs H Q E → vs.length = ps.length) (hb : ∀ f, BodyOk CX0 P w K mg base N qual st f k sp) : Prp P w K mg base CX0 (k + 1) C m sp :=
  let ⟨p, f, fd, F, a⟩ := D.ex
  ⟨p, f, fd, ps, F.ok S len (hb f), a, F.binds b⟩
theorem CmtK.cmt (D : CmtK K C mc m qual st) (S : FnScope N ps (defScope st)) (b : BindOk m qual st ps) (len : ∀ vs H Q E, sp vs H Q E → vs.length = ps.length) (hb : ∀ f, BodyOk CX0 P w K mg base N qual st f k sp) : Cmt P w K mg base CX0 (k + 1) C mc m sp :=
  let ⟨p, f, fd, F, r, a⟩ := D.ex
  ⟨p, f, fd, ps, F.ok S len (hb f), r, a, F.binds b⟩
end
section
variable {X : Cx} {k j : Nat} {C : Addr} {mc : Value} {x m : Str} {sp : Sp} {p pos apos : Pos} {e o : Expr} {es : List Expr} {ta : TE} {t : TA}
theorem pe_c (c : Cal X.prog X.w X.K X.mg X.base CX0 k x sp) (hr : Room j X.A) (hk : k ≤ j) (hg : Gl X x) (ha : PA X (e :: es) t)
    (hdb : (x == ("__debug__" : Str)) = false := by decide) (he : starEach (e :: es) X.env = (false, eval e X.env) :: starEach es X.env := by rfl) (hpl : (backTo pos (starEach es X.env)).any (·.1) = false := by rfl) :
    PE X (.Call (.Name x p) (e :: es) [] pos) (tCall sp [] E0 t) := by
  obtain ⟨f, fd, ps, F, hm, kp, b⟩ := c.ex
  exact pe_call F (hr.mono hk) hg hm kp b .nil pass0 ha hdb he hpl
theorem pe_cG (c : CalG X.prog X.w X.K X.mg X.base CX0 k x sp) (g : X.A.guards = some []) (hr : Room j X.A) (hk : k ≤ j) (hg : Gl X x) (ha : PA X (e :: es) t)
    (hdb : (x == ("__debug__" : Str)) = false := by decide) (he : starEach (e :: es) X.env = (false, eval e X.env) :: starEach es X.env := by rfl) (hpl : (backTo pos (starEach es X.env)).any (·.1) = false := by rfl) :
    PE X (.Call (.Name x p) (e :: es) [] pos) (tCall sp [] E0 t) := by
  obtain ⟨f, fd, ps, F, hm, kp, b⟩ := c.ex
  exact pe_callG F g (hr.mono hk) hg hm kp b .nil pass0 ha hdb he hpl
/-- a class that is made by its name -/
structure Mak (P : Program) (w : World) (K : PySem.W.Frag) (mg : Str → Option Value) (base : Heap) (CX : CXT) (k : Nat) (x : Str) (C : Addr) (sp : Sp) : Prop where
  mg_ : mg x = some (.ref C)
  mks : PySem.W.makesIn K C = true
  kp : PySem.W.keepIn K (.ref C) = true
  init : Met P w K mg base CX k C "__init__" sp
theorem pe_mk (c : Mak X.prog X.w X.K X.mg X.base CX0 k x C sp) (hr : Room j X.A) (hk : k + 1 ≤ j) (hg : Gl X x) (ha : PA X (e :: es) t)
    (hdb : (x == ("__debug__" : Str)) = false := by decide) (he : starEach (e :: es) X.env = (false, eval e X.env) :: starEach es X.env := by rfl) (hpl : (backTo pos (starEach es X.env)).any (·.1) = false := by rfl) :
    PE X (.Call (.Name x p) (e :: es) [] pos) (tMake C sp [] E0 t) := by
  obtain ⟨f, fd, ps, F, a, i, kp, b⟩ := c.init.ex
  exact pe_make ⟨c.mks, a, i, c.kp⟩ F (hr.mono hk) hg c.mg_ b .nil pass0 ha hdb he hpl
theorem pe_mkL {i : Nat} (c : Mak X.prog X.w X.K X.mg X.base CX0 k m C sp) (hr : Room j X.A) (hk : k + 1 ≤ j) (hN : X.N[i]? = some x) (hv : Vis X.env.scope x) (ha : PA X (e :: es) t)
    (hdb : (x == ("__debug__" : Str)) = false := by decide) (hcd : (x == ("__classdict__" : Str)) = false := by decide)
    (he : starEach (e :: es) X.env = (false, eval e X.env) :: starEach es X.env := by rfl) (hpl : (backTo pos (starEach es X.env)).any (·.1) = false := by rfl) : PE X (.Call (.Name x p) (e :: es) [] pos) (tMakeL i C sp [] E0 t) := by
  obtain ⟨f, fd, ps, F, a, b', kp, b⟩ := c.init.ex
  exact pe_makeL ⟨c.mks, a, b', c.kp⟩ F (hr.mono hk) hN hv b .nil pass0 ha hdb hcd he hpl
theorem pe_m {pl : Sem Bool} (c : Met X.prog X.w X.K X.mg X.base CX0 k C m sp) (cl : Cls X.K C) (hr : Room j X.A) (hk : k ≤ j) (he : PE X o ta) (ha : PA X (e :: es) t)
    (hst : starEach (e :: es) X.env = (false, eval e X.env) :: starEach es X.env := by rfl) (hpl : (backTo pos (starEach es X.env)).any (·.1) = false := by rfl)
    (ht : eval (.Call (.Attribute o m apos) (e :: es) [] pos) X.env = (do
      let ov ← eval o X.env
      standAt apos.atName
      let (f, first) ← holding [ov] (getMethod ov m pl)
      callWith pos f first (backTo pos (starEach (e :: es) X.env)) (backToKw pos (keywordEach [] X.env))) := by rfl) :
    PE X (.Call (.Attribute o m apos) (e :: es) [] pos) (tMeth C m sp [] E0 ta t) := by
  obtain ⟨f, fd, ps, F, a, i, kp, b⟩ := c.ex
  exact pe_meth (pl := pl) he cl ⟨a, i, kp⟩ F (hr.mono hk) b .nil pass0 ha hst hpl ht
theorem pe_p (c : Prp X.prog X.w X.K X.mg X.base CX0 k C m sp) (cl : Cls X.K C) (hr : Room j X.A) (hk : k + 1 ≤ j) (he : PE X o ta)
    (hab : attributeBase o m X.env (eval o X.env) = eval o X.env := by rfl) : PE X (.Attribute o m pos) (tProp C sp [] E0 ta) := by
  obtain ⟨q, f, fd, ps, F, a, b⟩ := c.ex
  exact pe_prop he cl a F (hr.mono hk) b .nil pass0 hab
theorem op_b {op : Operator} {m : Str} (c : Met X.prog X.w X.K X.mg X.base CX0 k C m sp) (sf : PySem.W.selfFirst X.K C = true) (hr : Room j X.A) (hk : k ≤ j) (hm : m = PySem.dunder op.info.2 := by rfl) : OpR X (binaryOp op) (rOwnB C sp E0) := by
  subst hm
  obtain ⟨f, fd, ps, F, a, i, kp, b⟩ := c.ex
  exact op_ownB F (hr.mono hk) ⟨a, i⟩ sf b pass0
/-- a name of the module, by its value; a built-in type by its name -/
theorem pe_gc {v : V} (hg : Gl X x) (h : ∃ u, X.mg x = some u ∧ L2.RelV v u) (hd : (x == ("__debug__" : Str)) = false := by decide) : PE X (.Name x pos) (tC v) := by
  obtain ⟨u, hm, r⟩ := h
  exact pe_glob hg hm r hd
theorem pe_ty {n : String} (hg : Gl X x) (hm : X.mg x = none) (hv : bootBuiltins x = some (.type n)) (hn : x ≠ "__name__" := by decide) (hd : (x == ("__debug__" : Str)) = false := by decide) : PE X (.Name x pos) (tC (.ty n)) :=
  pe_bltn (v := .ty n) (u := .type n) hg hm hv rfl hn hd
theorem pe_cm0 {pl : Sem Bool} (c : Cmt X.prog X.w X.K X.mg X.base CX0 k C mc m sp) (hr : Room j X.A) (hk : k ≤ j) (he : PE X o ta)
    (ht : eval (.Call (.Attribute o m apos) [] [] pos) X.env = (do
      let ov ← eval o X.env
      standAt apos.atName
      let (f, first) ← holding [ov] (getMethod ov m pl)
      callWith pos f first (backTo pos (starEach [] X.env)) (backToKw pos (keywordEach [] X.env))) := by rfl) :
    PE X (.Call (.Attribute o m apos) [] [] pos) (ClX.tCMeth C (fun vs H Q E => sp (vs ++ []) H Q E) E0 ta tNil) := by
  obtain ⟨q, f, fd, ps, F, r, a, b⟩ := c.ex
  exact pe_cmeth0 (pl := pl) he r a (F.raw b .nil) (hr.mono hk) pass0 ht
end
end Jg
/-! comprehensions that filter ints: [m for m in .. if test], the test pure -/
namespace Jg
open PySem PySem.Spec PyProof.Rows L2
/-- the shape that a list comprehension's reading asks -/
abbrev LcAsk (J : It) (g : TG) (tt : TT) (te : TE) (vs : List Nat) (σ : L2.St) (H1 : Hp) (D : Addr) (Qd : Hp → Prop) : Prop :=
  ∃ W : Nat → Nat → Hp → Prop, (∃ m, W 0 m (upd H1 D (.lst []))) ∧ ∀ i m H, W i m H →
      (J.stop i H ∧ Qd H) ∨ (J.go i H ∧ ∃ Nx : Hp → Prop, (∀ H', Nx H' → ∃ m', m' < m ∧ W (i + 1) m' H') ∧ ∀ x H', J.yld i H x H' → g x (wipe σ vs) H' fun σ2 H2 => wipe σ2 vs = wipe σ vs ∧ tt σ2 H2 fun b H3 =>
        if b = true then te σ2 H3 fun y H4 => ∃ acc, H4 D = some (.lst acc) ∧ acc.length < sizeLine ∧ Nx (upd H4 D (.lst (acc ++ [y]))) else Nx H3)
/-! ### strictly sorted lists of ints -/
end Jg
/-! lists and tuples of ints as data: == and what it asks -/
namespace Jg
open PySem PySem.Spec PyProof.Rows L2
end Jg
/-! set(xs) of a list of ints -/
namespace Jg
open PySem PySem.Spec PyProof.Rows L2
/-- a set just made -/
def mtSet (w : World) : Obj := { cls := .type "set", dict := none, data := .set #[] 0 (.fresh 0 0 (!w.params.followText "set-order")) }
section
variable {P : Program} {w : World} {A : Around} {E : Value → Shared → Prop} {s : Shared}
theorem mt_at (w : World) (h : Heap) : (h.push (mtSet w)).get? h.objs.size = some (mtSet w) := Heap.get?_push_size _ rfl
end
end Jg
/-! try with any number of clauses, named or not, the rest of them perhaps never asked -/
namespace Jg
open PySem PySem.Spec PyProof.Rows L2
/-- an exception a of the class cls, its dict d, lies caught in the frame of X -/
def Caught (X : Cx) (pins : List (Addr × Obj)) (σ : L2.St) (H : Hp) (a : Addr) (cls : Value) (d : Option Addr) (s : Shared) : Prop :=
  ∃ (B : Heap) (s0 : Shared), Inv X pins σ H s0 ∧ (∀ b o, s0.heap.get? b = some o → b ∉ frs X.stack → B.get? b = some o) ∧ s0.heap.UpToSlots s.heap ∧
    HandSPX.FlyingZ B (X.env :: X.outer) a (Zc cls d) s.heap ∧ s.os = s0.os ∧ AllBare s.gens ∧ H a = none
section
variable {X : Cx} {pins : List (Addr × Obj)} {σ : L2.St} {H : Hp} {a : Addr} {cls : Value} {d : Option Addr} {s : Shared}
theorem Caught.inv (c : Caught X pins σ H a cls d s) : Inv X pins σ H s :=
  let ⟨_, _, J, keep, up, fly, os, bare, _⟩ := c
  J.landed keep fly.1 up os bare
theorem Caught.hole (c : Caught X pins σ H a cls d s) : H a = none :=
  let ⟨_, _, _, _, _, _, _, _, z⟩ := c
  z
/-- the place of the exception, and what stands there -/
theorem Caught.place (c : Caught X pins σ H a cls d s) (fr : X.env.frame = some X.env.locals) :
    ∃ oe vs, s.heap.get? a = some oe ∧ Zc cls d oe ∧ oe.data = .fields vs ∧ a ≠ X.env.locals ∧ a ∉ X.fs := by
  obtain ⟨B, s0, J, keep, up, fly, os, bare, z⟩ := c
  obtain ⟨oe, vs, at_, zc, dt⟩ := fly.there
  have out : a ∉ frs (X.env :: X.outer) := fun m => by
    obtain ⟨_, o, at2, no⟩ := fly.2.2.1.mem m
    cases at_.symm.trans at2
    exact no vs dt
  refine ⟨oe, vs, at_, zc, dt, fun e => out ?_, fun m => out ?_⟩
  · rw [e]
    exact List.mem_filterMap.mpr ⟨_, List.mem_cons_self, fr⟩
  · obtain ⟨e, me, fe⟩ := List.mem_filterMap.mp m
    exact List.mem_filterMap.mpr ⟨e, List.mem_cons_of_mem _ me, fe⟩
theorem Caught.again {M : Model} {A : Around} {E : Value → Shared → Prop} {Q : Unit → Shared → Prop} (c : Caught X pins σ H a cls d s) (q : ∀ s', Caught X pins σ H a cls d s' → Q () s') :
    wpAny M A (setFlight (.ref a) .none) Q E s := by
  obtain ⟨B, s0, J, keep, up, fly, os, bare, z⟩ := c
  exact HandSPX.lands_againZ fly fun h' fly' up' => q _ ⟨B, s0, J, keep, up.trans up', fly', os, bare, z⟩
/-- no clause took it: it goes on -/
theorem Caught.goes {W : WX} {Q : Flow → Shared → Prop} {pos : String} (ok : X.Ok) (hs : X.stack = X.env :: X.outer) (fr : X.env.frame = some X.env.locals) (c : Caught X pins σ H a cls d s) (tk : Takes X W) (w : W cls d σ H) :
    wpAny (model X.prog X.w) X.A (passOn pos (.ref a) X.env) Q X.xe s := by
  obtain ⟨B, s0, J, keep, up, fly, os, bare, z⟩ := c
  obtain ⟨_, _, _, oe, vs, T, oT, ts, at_, _, dt, one, _⟩ := id fly
  have last : wpAny (model X.prog X.w) X.A (setFlight (.ref a) X.env.frame) (fun _ s4 => wpAny (model X.prog X.w) X.A (throw (.ref a) : Sem Flow) Q X.xe s4) X.xe s := by
    rw [fr]
    refine HandSPX.setFlight_upZ fly fun h4 held up4 => wpAny_throw (tk _ _ ⟨a, B, s0, pins, σ, H, cls, d, rfl, J, keep, up.trans up4, .inr (.inr ?_), z, os, bare, w⟩)
    rw [hs]
    exact held
  unfold PySem.passOn
  refine wpAny_bind (wpAny_field at_ dt one ?_)
  rw [if_neg (by simp : ¬ ((Value.ref T == Value.none) = true))]
  first
    | exact wpAny_bind (wpAny_pure (wpAny_bind last))
    | exact wpAny_bind last
end
/-- the slot i is free behind what the ends say -/
def gone (i : Nat) (D : Ends) : Ends := { nx := fun σ H => D.nx (σ.set i .none) H, rt := D.rt, bk := fun σ H => D.bk (σ.set i .none) H, ct := fun σ H => D.ct (σ.set i .none) H }
/-- what a row of clauses wishes of the exception -/
inductive Hds (X : Cx) (Wout : WX) : List ExceptHandler → (Ends → WX) → Prop
  | out : Hds X Wout [] fun _ => Wout
  | cut {l : List ExceptHandler} : Hds X Wout l fun _ _ _ _ _ => False
  | named {x n : Str} {c : Value} {i : Nat} {ts : Addr → Value → Option Addr → TS} {b : Stmt} {suite : List Stmt} {np p : Pos} {l : List ExceptHandler} {w : Ends → WX} (hi : X.N[i]? = some n) (hl : X.env.kindOf n = some .local) (hc : Names X x c)
      (body : ∀ (a : Addr) (oe : Obj) (cls : Value) (d : Option Addr) (pn : List (Addr × Obj)), Zc cls d oe → (∃ vs, oe.data = .fields vs) → PSs (X.suite a ((a, oe) :: pn)) (b :: suite) (ts a cls d)) (r : Hds X Wout l w) :
      Hds X Wout (.ExceptHandler (some (.Name x np)) (some n) (b :: suite) p :: l) fun D cls d σ H =>
        ∃ k, PySem.W.exmOne X.K cls c = some k ∧ (k = true → ∀ a, H a = .none → ts a cls d (gone i D) (σ.set i (some (.ref a))) H) ∧ (k = false → w D cls d σ H)
  | plain {x : Str} {c : Value} {ts : Addr → Value → Option Addr → TS} {b : Stmt} {suite : List Stmt} {np p : Pos} {l : List ExceptHandler} {w : Ends → WX} (hc : Names X x c)
      (body : ∀ (a : Addr) (oe : Obj) (cls : Value) (d : Option Addr) (pn : List (Addr × Obj)), Zc cls d oe → (∃ vs, oe.data = .fields vs) → PSs (X.suite a ((a, oe) :: pn)) (b :: suite) (ts a cls d)) (r : Hds X Wout l w) :
      Hds X Wout (.ExceptHandler (some (.Name x np)) none (b :: suite) p :: l) fun D cls d σ H =>
        ∃ k, PySem.W.exmOne X.K cls c = some k ∧ (k = true → ∀ a, H a = .none → ts a cls d D σ H) ∧ (k = false → w D cls d σ H)
section
variable {X : Cx} {Wout : WX}
/-- the test of a clause -/
theorem Caught.test {pins : List (Addr × Obj)} {σ : L2.St} {H : Hp} {a : Addr} {cls c : Value} {d : Option Addr} {s : Shared} {x : Str} {k : Bool} {np p : Pos} {R : Result → Shared → Prop} (t : Caught X pins σ H a cls d s) (fr : X.env.frame = some X.env.locals)
    (hc : Names X x c) (e : PySem.W.exmOne X.K cls c = some k) (q : R (.ok (if k then .brk else .next)) s) :
    codeAny (model X.prog X.w) (X.A.mark (some (.ref a))) (.handlers (.ref a) [.ExceptHandler (some (.Name x np)) none [] p] X.env) R s := by
  obtain ⟨oe, vs, at_, zc, dt, nl, nf⟩ := t.place fr
  have J := t.inv.suite at_ dt t.hole nl nf
  have ty : PySem.W.Looks (model X.prog X.w) s.heap (typeOf (.ref a)) cls := fun A Q E s' keep z => wpAny_typeOf_ref (keep _ _ at_) (by rw [zc.1]; exact z)
  have hit := PySem.W.exm_one (M := model X.prog X.w) t.inv.kIn ty e
  refine codeAny_handlers_test ?_
  obtain ⟨hg, nd, m | ⟨m, v, nn⟩⟩ := hc
  · exact ld_glob J hg m (hit.here q) nd
  · exact ld_blt J hg m v (hit.here q) nn nd
theorem Hds.run {hds : List ExceptHandler} {w : Ends → WX} (hd : Hds X Wout hds w) (hs : X.stack = X.env :: X.outer) (fr : X.env.frame = some X.env.locals) (hN : X.N.Nodup) (tk : Takes X Wout)
    {pins : List (Addr × Obj)} {σ : L2.St} {H : Hp} {a : Addr} {cls : Value} {d : Option Addr} {s : Shared} {D : Ends} (t : Caught X pins σ H a cls d s) (h : w D cls d σ H) :
    wpAny (model X.prog X.w) X.A (handleBy (.ref a) X.env hds) (SP X pins D) X.xe s := by
  have ok := t.inv.ok
  induction hd with
  | out => exact wpAny_handleBy_nil (t.goes ok hs fr tk h)
  | cut => exact h.elim
  | @named x n c i ts b suite np p l w hi hl hc body r ih =>
    obtain ⟨k, e, yes, no⟩ := h
    refine wpAny_handleBy_cons ?_ (fun z => nomatch z)
    refine t.test fr hc e ?_
    cases k with
    | false => exact ih (no rfl)
    | true =>
      refine codeAny_handlers_suite_as (t.again fun s2 t2 => ?_)
      obtain ⟨oe, vs, at_, zc, dt, nl, nf⟩ := t2.place fr
      have J := t2.inv.suite at_ dt t2.hole nl nf
      refine store_ok (X := X.suite a ((a, oe) :: (X.pn ++ pins))) (v := .ref a) J hN hi (.inl hl) rfl (fun s3 J3 => ?_) (.inr hl)
      refine wpAny_mono ((body a oe cls d _ zc ⟨vs, dt⟩).run [] s3 _ H _ J3 (yes rfl a t2.hole)) (fun f s4 z => ?_) fun _ _ z => z.elim
      have off : ∀ {σ4 : L2.St} {H4 : Hp} {Q : Shared → Prop}, Inv (X.suite a ((a, oe) :: (X.pn ++ pins))) [] σ4 H4 s4 → (∀ s5, Inv X pins (σ4.set i .none) H4 s5 → Q s5) →
          wpAny (model X.prog X.w) X.A (do bindName X.env n .none; unbindBehindTheSuite X.env n p) (fun _ s5 => Q s5) X.xe s4 := fun J4 q => gone_ok (J4.unsuite ok) hN hi hl q
      match f, z with
      | .next, ⟨_, _, J4, q⟩ => exact off J4 fun s5 J5 => ⟨_, _, J5, q⟩
      | .brk, ⟨_, _, J4, q⟩ => exact off J4 fun s5 J5 => ⟨_, _, J5, q⟩
      | .cont, ⟨_, _, J4, q⟩ => exact off J4 fun s5 J5 => ⟨_, _, J5, q⟩
      | .ret u, ⟨_, _, _, J4, rv, q⟩ => exact off J4 fun s5 J5 => ⟨_, _, _, J5, rv, q⟩
  | @plain x c ts b suite np p l w hc body r ih =>
    obtain ⟨k, e, yes, no⟩ := h
    refine wpAny_handleBy_cons ?_ (fun z => nomatch z)
    refine t.test fr hc e ?_
    cases k with
    | false => exact ih (no rfl)
    | true =>
      refine codeAny_handlers_suite (t.again fun s2 t2 => ?_)
      obtain ⟨oe, vs, at_, zc, dt, nl, nf⟩ := t2.place fr
      have J := t2.inv.suite at_ dt t2.hole nl nf
      refine wpAny_mono ((body a oe cls d _ zc ⟨vs, dt⟩).run [] s2 _ H _ J (yes rfl a t2.hole)) (fun f s4 z => ?_) fun _ _ z => z.elim
      match f, z with
      | .next, ⟨_, _, J4, q⟩ => exact ⟨_, _, J4.unsuite ok, q⟩
      | .brk, ⟨_, _, J4, q⟩ => exact ⟨_, _, J4.unsuite ok, q⟩
      | .cont, ⟨_, _, J4, q⟩ => exact ⟨_, _, J4.unsuite ok, q⟩
      | .ret u, ⟨_, _, _, J4, rv, q⟩ => exact ⟨_, _, _, J4.unsuite ok, rv, q⟩
/-- try: body / clauses -/
theorem ps_try {body : List Stmt} {h₀ : ExceptHandler} {hds : List ExceptHandler} {w : Ends → WX} {pos : Pos} {tb : WX → TS} (hd : Hds X Wout (h₀ :: hds) w) (hs : X.stack = X.env :: X.outer) (fr : X.env.frame = some X.env.locals) (hN : X.N.Nodup) (tk : Takes X Wout)
    (hb : ∀ (W : WX) (pn : List (Addr × Obj)) (xe : Value → Shared → Prop), Takes (X.tr pn xe) W → PassesOwn (model X.prog X.w) X.A X.env xe → PSs (X.tr pn xe) body (tb W)) :
    PS X (.Try body (h₀ :: hds) [] [] pos) fun D σ H => tb (w D) D σ H := by
  refine ⟨fun pins s σ H D I h => wpAny_Try_except ?_⟩
  have ok := I.ok
  let xe : Value → Shared → Prop := fun e s1 => wpAny (model X.prog X.w) X.A (noteFrame e X.env) (fun _ s2 => wpAny (model X.prog X.w) X.A (setFlight e .none) (fun _ s3 => wpAny (model X.prog X.w) X.A (handleBy e X.env (h₀ :: hds)) (SP X pins D) X.xe s3) X.xe s2) X.xe s1
  have tkb : Takes (X.tr (X.pn ++ pins) xe) (w D) := by
    rintro u s1 ⟨a, B, s0, pins', σ1, H1, cls, d, rfl, J', keep, up, sky, z, os, bare, wd⟩
    have J : Inv X pins σ1 H1 s0 := J'.ofTry ok
    have fl : Sky B (X.env :: X.outer) a (Zc cls d) X.env.locals s1.heap := by rw [← hs]; exact sky
    show wpAny (model X.prog X.w) X.A (noteFrame (.ref a) X.env) _ _ _
    refine Sky.land Zc.steady (by rw [ok.frames, hs]) fr fl fun h3 fly up3 => ?_
    exact hd.run hs fr hN tk ⟨B, s0, J, keep, up.trans up3, fly, os, bare, z⟩ wd
  refine wpAny_mono ((hb (w D) (X.pn ++ pins) xe tkb PassesOwn.looking).run [] s σ H D (I.toTry xe) h) (fun f s1 z => ?_) fun _ _ z => z
  match f, z with
  | .next, ⟨_, _, J, q⟩ => exact wpAny_execs_nil ⟨_, _, J.ofTry ok, q⟩
  | .brk, ⟨_, _, J, q⟩ => exact ⟨_, _, J.ofTry ok, q⟩
  | .cont, ⟨_, _, J, q⟩ => exact ⟨_, _, J.ofTry ok, q⟩
  | .ret u, ⟨_, _, _, J, rv, q⟩ => exact ⟨_, _, _, J.ofTry ok, rv, q⟩
end
/-! ### what may raise: called at the slots as they stand -/
section
variable {X : Cx} {k j : Nat} {C : Addr} {x m : Str} {sp : Sp} {W : WX} {p pos : Pos} {e : Expr} {es : List Expr} {t : TA}
theorem pe_cS (c : Cal X.prog X.w X.K X.mg X.base (L2.CX X.prog X.w) k x sp) (tk : Takes X W) (hr : Room j X.A) (hk : k ≤ j) (hg : Gl X x) (ha : PA X (e :: es) t)
    (hdb : (x == ("__debug__" : Str)) = false := by decide) (he : starEach (e :: es) X.env = (false, eval e X.env) :: starEach es X.env := by rfl) (hpl : (backTo pos (starEach es X.env)).any (·.1) = false := by rfl) :
    PE X (.Call (.Name x p) (e :: es) [] pos) (tCallS sp (WE W) t) := by
  obtain ⟨f, fd, ps, F, hm, kp, b⟩ := c.ex
  exact pe_callS F (hr.mono hk) hg hm kp b (passAt tk) ha hdb he hpl
end
section
variable {P : Program} {w : World} {K : PySem.W.Frag} {mg : Str → Option Value} {base : Heap} {k : Nat} {C : Addr} {x m qual : Str} {st : Stmt} {N ps : List Str} {sp : Sp}
/-- what a body that may raise must show -/
def BodyX (P : Program) (w : World) (K : PySem.W.Frag) (mg : Str → Option Value) (base : Heap) (N : List Str) (qual : Str) (st : Stmt) (f : Addr) (k : Nat) (sp : Sp) : Prop :=
  ∀ (cdv : Value) (A : Around) (outer : List Env) (s : Shared) (H : Hp) (vs : List V) (Q : VK) (E : XK), Room k (A.deeper (envOfC qual (defScope st) s.heap.objs.size f cdv)) → sp vs H Q E →
      ∃ t, PSs (cxOf (L2.CX P w) P w K mg base N qual (defScope st) f cdv A outer s H E) (defBody st) t ∧ t { nx := fun _ H' => Q .non H', rt := Q } (start N vs) H
theorem DefK.calX (D : DefK K mg x st) (S : FnScope N ps (defScope st)) (b : BindOk x x st ps) (len : ∀ vs H Q E, sp vs H Q E → vs.length = ps.length) (hb : ∀ f, BodyX P w K mg base N x st f k sp) : Cal P w K mg base (L2.CX P w) (k + 1) x sp :=
  let ⟨f, fd, F, m⟩ := D.ex
  ⟨f, fd, ps, F.okX S len (hb f), m, F.kp, F.binds b⟩
theorem MetK.metX (D : MetK K C m qual st) (S : FnScope N ps (defScope st)) (b : BindOk m qual st ps) (len : ∀ vs H Q E, sp vs H Q E → vs.length = ps.length) (hb : ∀ f, BodyX P w K mg base N qual st f k sp) : Met P w K mg base (L2.CX P w) (k + 1) C m sp :=
  let ⟨f, fd, F, a, i⟩ := D.ex
  ⟨f, fd, ps, F.okX S len (hb f), a, i, F.kp, F.binds b⟩
end
/-! ### an exception class of the program with an own __init__ -/
/-- __init__ that keeps its one argument in the field f -/
def spX (C : Addr) (f : Str) : Sp := fun vs H Q _ => ∃ a y, vs = [.ref a, y] ∧ H a = some (exo a C none) ∧ ∀ dx, H dx = none → dx ≠ a → Q .non (upd (upd H dx (exd dx [(f, y)])) a (exo a C (some dx)))
/-- .. called: the exception's dict is new, all else stays -/
theorem x_read {C : Addr} {f : Str} {y : V} {H : Hp} {Q : XK} (h : ∀ d, H d = none → Q (.ref C) (some d) (upd H d (.xd [(f, y)]))) : ([y] : List V).length ≤ 1000 ∧ ∀ a, H a = none → spX C f (.ref a :: ([y] ++ [])) (upd H a (exo a C none))
    (fun v H2 => v = .non ∧ ∃ (d : Addr) (fs : List (Str × V)), H2 a = some (exo a C (some d)) ∧ H2 d = some (exd d fs) ∧ H d = none ∧ Q (.ref C) (some d) (upd (del H2 a) d (.xd fs))) fun _ _ _ => False := by
  refine ⟨by show 1 ≤ 1000; decide, fun a na => ⟨a, y, rfl, upd_same, fun dx nd ne => ⟨rfl, dx, [(f, y)], upd_same, ?_, ?_, ?_⟩⟩⟩
  · rw [upd_ne ne, upd_same]
  · rw [upd_ne ne] at nd
    exact nd
  · have nd' : H dx = none := by rw [upd_ne ne] at nd; exact nd
    have e : upd (del (upd (upd (upd H a (exo a C none)) dx (exd dx [(f, y)])) a (exo a C (some dx))) a) dx (.xd [(f, y)]) = upd H dx (.xd [(f, y)]) := by
      funext b
      by_cases c1 : b = dx
      · rw [c1, upd_same, upd_same]
      · rw [upd_ne c1, upd_ne c1]
        by_cases c2 : b = a
        · rw [c2, del_same, na]
        · rw [del_ne c2, upd_ne c2, upd_ne c1, upd_ne c2]
    rw [e]
    exact h dx nd'
/-- what the class of a caught exception must say, for its fields and for isinstance -/
structure ExcK (K : PySem.W.Frag) (C : Addr) : Prop where
  xf : XfC K C
  ha : PySem.W.findIn K (.ref C) "__class__" = some (some (.builtin "object.__class__"))
  hn : PySem.W.specialIn K (.builtin "object.__class__") "__get__" = some (some (.builtin "getset_descriptor.__get__"))
  ht : PySem.W.takesIn K (.builtin "object.__class__") = some true
  hm : PySem.W.mroIn K C (.type "object") = some true
section
variable {X : Cx} {a C : Addr} {oe : Obj} {cls : Value} {d : Option Addr} {pn : List (Addr × Obj)}
/-- isinstance(e, c) of a caught exception with a dict -/
def rIsX (K : PySem.W.Frag) (cls : Value) (C a : Addr) (d : Option Addr) : List V → Hp → VK → Prop := fun xs H Q => ∃ (c : V) (cv : Value) (b : Bool) (dd : Addr) (fs : List (Str × V)), xs = [.ref a, c] ∧ cls = .ref C ∧ d = some dd ∧ H dd = some (.xd fs) ∧ (∀ u, RelV c u → u = cv) ∧ PySem.W.kitOne K (.ref C) cv = some b ∧ Q (.bl b) H
theorem exc_inst {pins : List (Addr × Obj)} {σ : L2.St} {H : Hp} {s : Shared} {dd : Addr} {fs : List (Str × V)} (I : Inv (X.suite a ((a, oe) :: pn)) pins σ H s) (hz : Zc (.ref C) (some dd) oe) (hf : ∃ vs, oe.data = .fields vs) (e : H dd = some (.xd fs)) : ∃ od, PySem.W.InstAt s.heap a oe C (some od) := by
  obtain ⟨mA, ns, _⟩ := I.hok dd _ e
  obtain ⟨od, at2, _⟩ := lookIn_ns ns
  obtain ⟨at1, _⟩ := I.pin (a, oe) (List.mem_append_left _ List.mem_cons_self)
  obtain ⟨vs, dt⟩ := hf
  exact ⟨od, at1, hz.1, by unfold PySem.W.notCls; rw [dt] <;> rfl, by rw [hz.2]; exact at2⟩
theorem call_isX (T : ExcK X.K C) (hz : Zc cls d oe) (hf : ∃ vs, oe.data = .fields vs) : CallR (X.suite a ((a, oe) :: pn)) (.builtin "isinstance") (rIsX X.K cls C a d) := by
  intro pins s σ H xs us Q I r h
  obtain ⟨c, cv, b, dd, fs, rfl, rfl, rfl, e, hc, k, q⟩ := h
  cases r with
  | cons r1 r2 =>
    cases r2 with
    | cons r3 r4 =>
      cases r4
      cases r1
      have ec := hc _ r3
      subst ec
      obtain ⟨od, J⟩ := exc_inst I hz hf e
      have cl : (PySem.W.clsIn X.K C).isSome = true := by
        obtain ⟨cd, z, _⟩ := PySem.W.any_some T.xf.hdC
        rw [z]; rfl
      exact PySem.W.kia_one (PySem.W.kitx_exc cl T.xf.ga T.xf.gg T.xf.exC T.ha T.hn T.ht T.hm) I.kIn J k (fun z => nomatch z) fun tk => ⟨.bl b, H, I.kept (t' := tk) fun _ _ z => z, rfl, q⟩
end
end Jg
/-! repr of any value that is data -/
namespace Jg
open PySem PySem.Spec PyProof.Rows L2
/-- v is shown as x -/
inductive Shw (K : PySem.W.Frag) (H : Hp) : V → Str → Prop
  | non : Shw K H .non "None"
  | bl (b : Bool) : Shw K H (.bl b) (if b then "True" else "False")
  | int (i : Int) (h : i.natAbs.log2 < 1920) : Shw K H (.int i) (toString i)
  | str (x : Str) (h : (reprText x).length ≤ sizeLine) : Shw K H (.str x) (reprText x)
  | dat {a : Addr} {d : PyData} (h : Dp K H (.ref a) d) (s : d.showable = true) (dp : d.depth ≤ 40) (z : d.shown.length ≤ sizeLine) : Shw K H (.ref a) d.shown
  | dnew {a : Addr} (h : H a = some (.dK [])) : Shw K H (.ref a) (PyData.dict []).shown
theorem Shw.keep {K : PySem.W.Frag} {H H' : Hp} {v : V} {x : Str} (s : Shw K H v x) (k : ∀ d, Dp K H v d → Dp K H' v d) (k2 : ∀ a, H a = some (.dK []) → H' a = some (.dK [])) : Shw K H' v x := by
  cases s with
  | non => exact .non
  | bl b => exact .bl b
  | int i h => exact .int i h
  | str x h => exact .str x h
  | dat h s dp z => exact .dat (k _ h) s dp z
  | dnew h => exact .dnew (k2 _ h)
def rShw (K : PySem.W.Frag) : List V → Hp → VK → Prop := fun xs H Q => ∃ v x, xs = [v] ∧ Shw K H v x ∧ Q (.str x) H
section
variable {X : Cx}
theorem dk_nil {P : Program} {w : World} {H : Hp} {h : Heap} {a : Addr} (ok : HOk P w H h) (e : H a = some (.dK [])) : ∃ as, Reads h (.ref a) (.dict []) as ∧ sysModules ∉ as := by
  obtain ⟨_, na, vs, kv, o, es, n, at_, ex, dt, _, pr, _⟩ := ok a _ e
  cases kv
  have e0 : es.toList = [] := by
    revert pr
    generalize es.toList = l
    intro pr
    cases pr
    rfl
  have r1 : ReadsAll h (es.toList.map (·.key)) (([] : List (PyData × PyData)).map (·.1)) [] := by rw [e0]; exact ReadsAll.nil
  have r2 : ReadsAll h (es.toList.map (·.val)) (([] : List (PyData × PyData)).map (·.2)) [] := by rw [e0]; exact ReadsAll.nil
  refine ⟨_, Reads.dict at_ ex.1 dt r1 r2, fun m => ?_⟩
  have z : sysModules = a := by simpa using m
  rw [← z] at na
  cases na
theorem call_shw (g : X.A.guards = some []) (hu : X.A.units + 64 < cLine) : CallR X (.builtin "repr") (rShw X.K) := by
  intro pins s σ H xs us Q I r h
  obtain ⟨v, x, rfl, sh, q⟩ := h
  obtain ⟨u, rfl, ru⟩ := vals1 r
  cases sh with
  | non => cases ru; exact PySem.P.repr_of_none ⟨.str _, H, I.tok _, ⟨_, rfl⟩, q⟩
  | bl b => cases ru; exact PySem.P.repr_of_bool ⟨.str _, H, I.tok _, ⟨_, rfl⟩, q⟩
  | int i hz => obtain ⟨t, rfl⟩ := ru; exact PySem.P.repr_of_int hz ⟨.str _, H, I.tok _, ⟨_, rfl⟩, q⟩
  | str y hz => obtain ⟨t, rfl⟩ := ru; exact PySem.P.repr_of_str ⟨.str _, H, I.tok _, ⟨_, rfl⟩, q⟩ hz
  | dat hd hs dp hz =>
    cases ru
    obtain ⟨as, R⟩ := Dp.reads I _ _ (.ref _) hd rfl
    exact repr_of_reads' R hs (PyData.noDict_hsm (noDict _ _ _ _ hd)) g (by omega) (fun _ _ e => e) (fun h' u tk hk => ⟨.str _, H, I.kept hk, ⟨_, rfl⟩, q⟩) hz
  | dnew e =>
    cases ru
    obtain ⟨as, R, na⟩ := dk_nil I.hok e
    have dp : (PyData.dict []).depth ≤ 40 := by decide +kernel
    exact repr_of_reads' R (by decide +kernel) (fun _ => na) g (by omega) (fun _ _ e => e) (fun h' u tk hk => ⟨.str _, H, I.kept hk, ⟨_, rfl⟩, q⟩) (by decide +kernel)
end
end Jg
namespace Jg
open PySem PySem.Spec PyProof.Rows L2
end Jg
/-! own exceptions over any built-in one; methods and classes with keywords that may raise, at the slots as they stand -/
namespace Jg
open PySem PySem.Spec PyProof.Rows L2
/-- the class at C stands over the built-in exception B -/
structure OvB (K : PySem.W.Frag) (C : Addr) (B nid iid : String) (line : List Value) : Prop where
  fB : ExcBaseFacts B nid iid line
  sB : StoreFacts B line "object.__setattr__" "object"
  ini : PySem.W.excInitIn K C line nid = true
  ovr : PySem.W.excOver K C line = true
  hd : PySem.W.hasDictIn K C = true
  sa : PySem.W.findIn K (.ref C) "__setattr__" = some (some (.builtin "object.__setattr__"))
  exC : PySem.W.subIn K (.ref C) (.type "BaseException") = some true
  tyC : PySem.W.typeIn K (.ref C) = some (.type "type")
  kC : PySem.W.keepIn K (.ref C) = true
def Ovr (K : PySem.W.Frag) (C : Addr) : Prop := ∃ B nid iid line, OvB K C B nid iid line
theorem taker0 {K : PySem.W.Frag} {C : Addr} {f : Str} (h : PySem.W.findIn K (.ref C) f = some none) : PySem.W.takerIn K C f = some none := by
  unfold PySem.W.takerIn
  rw [h]
  rfl
section
variable {X : Cx} {pins : List (Addr × Obj)} {σ : L2.St} {H : Hp} {s : Shared} {a C : Addr} {f : Str} {y : V} {u : Value} {Q : Unit → Shared → Prop} {E : Value → Shared → Prop} {A : Around}
/-- the first field of an exception that is being made: its dict comes to be -/
theorem keep_first (T : Ovr X.K C) (I : Inv X pins σ H s) (e : H a = some (exo a C none)) (no : PySem.W.findIn X.K (.ref C) f = some none) (ry : RelV y u)
    (h : ∀ dx s', H dx = none → dx ≠ a → Inv X pins σ (upd (upd H dx (exd dx [(f, y)])) a (exo a C (some dx))) s' → Q () s') : wpAny (model X.prog X.w) A (setAttr (.ref a) f u) Q E s := by
  obtain ⟨B, nid, iid, line, T⟩ := T
  obtain ⟨t1, ho⟩ := exo_at I.hok e
  obtain ⟨cd, hc, hdd⟩ := PySem.W.any_some T.hd
  have kin := I.kIn
  obtain ⟨hp, g, d, t, os⟩ := s
  refine PySem.W.set_plain (ox := PySem.W.excObj C t1 none .none) (od := none) kin ⟨ho, rfl, rfl, trivial⟩ T.sa ?_
  refine PySem.W.osa_openX (od := none) T.sB kin ⟨ho, rfl, rfl, trivial⟩ T.ovr (taker0 no) fun b => ?_
  refine wpAny_bind (wpAny_pure (wpAny_bind (PySem.W.instanceDict_exc ho (PySem.W.looks_clsIn kin hc) hdd ?_)))
  have below : a < hp.objs.size := Heap.lt_size ho
  have apart : a ≠ hp.objs.size := Nat.ne_of_lt below
  have ho2 : (hp.push (PySem.W.dictOf [] 0)).get? a = some (PySem.W.excObj C t1 none .none) := Heap.get?_push_of_some _ ho
  show wpAny _ _ (Builtin.ObjectAttr.storeInDict hp.objs.size (.str f _) f u) _ _ _
  refine HandSPX.store_in_new ⟨_, #[], _, (Heap.get?_update_ne _ _ _ _ apart.symm).trans (Heap.get?_push_at rfl rfl), rfl, fun _ z => absurd z (by simp), fun _ => rfl⟩ fun h2 tk2 ns1 same => ?_
  -- the dict first, then the exception
  obtain ⟨od, es, ep, hod, rest⟩ := id ns1
  have ha2 : h2.get? a = some (PySem.W.excObj C t1 (some hp.objs.size) .none) := (same.2 a apart).trans (Heap.get?_update_self _ ho2 rfl)
  have stays : ∀ c o, c ≠ a → hp.get? c = some o → h2.get? c = some o := fun c o n z =>
    (same.2 c (Nat.ne_of_lt (Heap.lt_size z))).trans ((Heap.get?_update_ne _ _ _ _ n).trans (Heap.get?_push_of_some _ z))
  have nd : H hp.objs.size = none := I.hok.fresh (Nat.le_refl _)
  have fr : od.isFreed = false := (Heap.get?_some_iff.mp hod).2
  have hg : (hp.push od).get? hp.objs.size = some od := Heap.get?_push_at rfl fr
  have I1 : Inv X pins σ (upd H hp.objs.size (exd hp.objs.size [(f, y)])) ⟨hp.push od, g, d, t, os⟩ :=
    I.laid (a := hp.objs.size) (t' := t) (o := exd hp.objs.size [(f, y)]) (h' := hp.push od) (fun c o z => Heap.get?_push_of_some _ z) (Nat.le_refl _)
      (exd_ok (ns1.at fun o z => by rw [hod] at z; cases z; exact hg) (relO_put (fs := []) ry fun _ => True.intro))
  have e1 : upd H hp.objs.size (exd hp.objs.size [(f, y)]) a = some (exo a C none) := by rw [upd_ne apart]; exact e
  have I2 := I1.write (x := a) (e := a) (t' := tk2) (h' := h2) (o := exo a C (some hp.objs.size)) (by rw [e1]; exact True.intro) (.inl rfl)
    (fun c o n z => by
      by_cases k : c = hp.objs.size
      · subst k
        rw [hg] at z
        cases z
        exact hod
      · have z' : hp.get? c = some o := by
          rw [Heap.get?_push_ne _ _ _ k] at z
          exact z
        exact stays c o n z') ⟨_, ha2⟩ (exo_ok ha2)
  exact h _ _ nd apart.symm I2
end
/-- self.f = e in an exception's __init__ -/
def tKeep (K : PySem.W.Frag) (f : Str) (to te : TE) : TS := fun D σ H => te σ H fun y H1 => to σ H1 fun x H2 => ∃ a C : Addr, x = .ref a ∧ Ovr K C ∧ PySem.W.findIn K (.ref C) f = some none ∧
  H2 a = some (exo a C none) ∧ ∀ dx, H2 dx = none → dx ≠ a → D.nx σ (upd (upd H2 dx (exd dx [(f, y)])) a (exo a C (some dx)))
theorem ps_keep {X : Cx} {o e : Expr} {to te : TE} {f : Str} {p' pos : Pos} (ho : PE X o to) (he : PE X e te) (hs : swapsWith e (some (.Attribute o f p')) pos.line X.env = pure false := by rfl) : PS X (.Assign [.Attribute o f p'] e pos) (tKeep X.K f to te) :=
  ⟨fun pins s σ H D I h => plainObj_wpAny_Assign_Attribute (thn (he.run pins s σ H _ I h) fun v s1 ⟨y, H1, I1, r1, q1⟩ => thn (ho.run pins s1 σ H1 _ I1 q1) fun u s2 ⟨x, H2, I2, r2, a, C, ex, T, no, ea, q⟩ => by
    subst ex
    obtain rfl : u = Value.ref a := r2
    exact keep_first T I2 ea no r1 fun dx s' n ne J => ⟨σ, _, J, q dx n ne⟩) hs⟩
/-- an exception class of the program with an own __init__, over any built-in one -/
structure ExnB (P : Program) (w : World) (K : PySem.W.Frag) (mg : Str → Option Value) (base : Heap) (k : Nat) (x : Str) (C : Addr) (sp : Sp) : Prop where
  mg_ : mg x = some (.ref C)
  cls : Ovr K C
  init : ∃ fI fd ps, FnOk P w K mg base CX0 k fI fd ps sp ∧ PySem.W.findIn K (.ref C) "__init__" = some (some (.ref fI)) ∧ PySem.W.typeIn K (.ref fI) = some (.type "function") ∧ Binds K fd ps []
theorem pmk_b {X : Cx} {k j : Nat} {C : Addr} {x : Str} {sp : Sp} {p pos : Pos} {e : Expr} {es : List Expr} {t : TA} (c : ExnB X.prog X.w X.K X.mg X.base k x C sp) (hr : Room j X.A) (hk : k + 1 ≤ j) (hg : Gl X x) (ha : PA X (e :: es) t)
    (hdb : (x == ("__debug__" : Str)) = false := by decide) (he : starEach (e :: es) X.env = (false, eval e X.env) :: starEach es X.env := by rfl) (hpl : (backTo pos (starEach es X.env)).any (·.1) = false := by rfl) :
    PMk X (.Call (.Name x p) (e :: es) [] pos) (tMkO C sp [] t) := by
  obtain ⟨fI, fd, ps, F, at_, ty, b⟩ := c.init
  obtain ⟨B, nid, iid, line, T⟩ := c.cls
  intro pins s σ H Q I h
  refine wpAny_Call_Name_kw (ld_glob I hg c.mg_ (PySem.W.callWith_K (h₀ := X.base) I.ok.mod.kin T.kC (thn (ha.run pos pins s σ H _ I h) fun us s1 ⟨vs, H1, J, rs, short, go⟩ => ⟨J.kIn, ?_⟩) he hpl) hdb)
  obtain ⟨nm, N, qn, bs, bm, hdct, sn, sub, ab, col, dd, k0, k1, k2, k3, k5, hC, same⟩ := PySem.W.excInit_of J.kIn T.ini
  obtain ⟨hp, g, dr, tk, os⟩ := s1
  let n := hp.objs.size
  let h2 := (hp.push (PySem.W.kdv_tup us)).push (HandSPX.excO C n)
  have grown : ∀ b o, hp.get? b = some o → h2.get? b = some o := fun b o z => Heap.get?_push_of_some _ (Heap.get?_push_of_some _ z)
  have here : h2.get? (n + 1) = some (HandSPX.excO C n) := by
    show ((hp.push (PySem.W.kdv_tup us)).push (HandSPX.excO C hp.objs.size)).get? (hp.objs.size + 1) = some (HandSPX.excO C hp.objs.size)
    heap_get
  have hole : H1 (n + 1) = none := J.hok.fresh (Nat.le_succ _)
  have q0 := go (n + 1) hole
  have J2 : Inv X pins σ (upd H1 (n + 1) (exo (n + 1) C none)) ⟨h2, g, dr, tk, os⟩ := J.laid (t' := tk) (a := n + 1) (h' := h2) grown (Nat.le_succ _) (exo_ok here)
  have rel : Vals (V.ref (n + 1) :: (vs ++ [])) (Value.ref (n + 1) :: (us ++ [])) := .cons rfl (rs.append .nil)
  have many : (Value.ref (n + 1) :: us ++ []).length = ps.length := rel.length.symm.trans (F.len _ _ _ _ q0)
  have fits : us.length ≤ sizeLine := by
    have z := Paired.length rs
    rw [sizeLine_eq]
    omega
  have run := F.run _ X.stack _ _ ⟨Value.ref (n + 1) :: us, []⟩ _ _ _ (fun _ _ _ => False) ((hr.mono hk).make C us []) (J2.env0.make C us []) (b _ (Value.ref (n + 1) :: us) J2.kIn many) rel q0
  show wpAny _ _ (call (.ref C) us) _ _ _
  refine wpAny_call (HandSPX.call_own T.fB same hC (PySem.W.looks_findIn J.kIn at_) (fun self => PySem.W.bind_fn J.kIn self ty) fits (codeAny_mono run fun o s2 z => ?_))
  match o, z with
  | .error err, z => exact (pass0 : Passes CX0 X _) pins σ _ _ err s2 J2 z
  | .ok (.ret u), ⟨v, H2, os2, bare2, un2, hok2, rv, ev, d, fs, ea, ed, nd, q2⟩ =>
    subst ev
    exact ⟨rv, mk_end (raises_own T.exC T.tyC) J (Nat.le_succ _) grown un2 hok2 os2 bare2 ea ed nd q2⟩
/-! ### o.m(e, ..) that may raise -/
def tMethS (C : Addr) (m : Str) (sp : Sp) (E : L2.St → XK) (ta : TE) (t : TA) : TE := fun σ H Q => ta σ H fun x H1 => ∃ a dx fs, x = .ref a ∧ H1 a = some (.ins C dx fs) ∧ fs.lookup m = none ∧ t σ H1 fun vs H2 => sp (.ref a :: vs) H2 Q (E σ)
section
variable {X : Cx} {k j : Nat} {C : Addr} {x m : Str} {sp : Sp} {W : WX} {p pos apos : Pos} {e o : Expr} {es : List Expr} {ta : TE} {t : TA}
theorem pe_mS {pl : Sem Bool} (c : Met X.prog X.w X.K X.mg X.base (L2.CX X.prog X.w) k C m sp) (cl : Cls X.K C) (tk : Takes X W) (hr : Room j X.A) (hk : k ≤ j) (he : PE X o ta) (ha : PA X (e :: es) t)
    (hst : starEach (e :: es) X.env = (false, eval e X.env) :: starEach es X.env := by rfl) (hpl : (backTo pos (starEach es X.env)).any (·.1) = false := by rfl)
    (ht : eval (.Call (.Attribute o m apos) (e :: es) [] pos) X.env = (do
      let ov ← eval o X.env
      standAt apos.atName
      let (f, first) ← holding [ov] (getMethod ov m pl)
      callWith pos f first (backTo pos (starEach (e :: es) X.env)) (backToKw pos (keywordEach [] X.env))) := by rfl) :
    PE X (.Call (.Attribute o m apos) (e :: es) [] pos) (tMethS C m sp (WE W) ta t) := by
  obtain ⟨f, fd, ps, F, at_, i, kp, b⟩ := c.ex
  refine ⟨fun pins s σ H Q I h => PySem.W.methodCall_KW (pl := pl) (thn (he.run pins s σ H _ I h) fun u s1 ⟨x, H1, I1, rx, a, dx, fs, ex, ea, l, q⟩ => ?_) ht⟩
  subst ex
  obtain rfl : u = Value.ref a := rx
  refine getmeth_ok I1 ea cl ⟨at_, i, kp⟩ l (PySem.W.callWith_K (first := [.ref a]) (h₀ := X.base) I.ok.mod.kin kp (thn (ha.run pos pins s1 σ H1 _ I1 q) fun us s2 ⟨vs, H2, I2, r, q2⟩ => ⟨I2.kIn, ?_⟩) hst hpl)
  exact run_fnS (E := WE W) (us := .ref a :: us) (vs := .ref a :: vs) F (hr.mono hk) b (passAt tk σ) I2 (.cons rfl r) q2
end
/-! ### C(k = v, ..) -/
/-- __init__ with keyword-only parameters, as the top leaves it -/
structure IniK (K : PySem.W.Frag) (C : Addr) (qual : Str) (st : Stmt) (kws : List (Str × V)) : Prop where
  ex : ∃ f fd, FunD K "__init__" qual (defArgs st) (defBody st) (defScope st) [] kws f fd ∧ PySem.W.findIn K (.ref C) "__init__" = some (some (.ref f)) ∧ PySem.W.isFn K (.ref f) = true
theorem IniK.of {K : PySem.W.Frag} {C : Addr} {qual : Str} {st : Stmt} {f : Addr} {oc : Value} {od an : Option Addr} {osl : Array (Option Value)} {kV doc pm cdv ct : Value} {kws : List (Str × V)}
    (a : PySem.W.findIn K (.ref C) "__init__" = some (some (.ref f))) (i : PySem.W.isFn K (.ref f) = true) (l : K.lookup f = some ⟨oc, od, .func (PySem.W.fnOf "__init__" qual (defArgs st) (defBody st) (defScope st) .none kV doc pm an cdv ct), osl⟩)
    (c : PySem.W.codeIn K cdv qual = true) (k : PySem.W.keepIn K (.ref f) = true) (kw : KwdV K kV kws) : IniK K C qual st kws := ⟨f, _, ⟨⟨oc, od, .none, kV, doc, pm, an, cdv, ct, osl, rfl, l, c, .inl ⟨rfl, rfl⟩, kw⟩, k⟩, a, i⟩
structure MakW (P : Program) (w : World) (K : PySem.W.Frag) (mg : Str → Option Value) (base : Heap) (CX : CXT) (k : Nat) (x : Str) (C : Addr) (ks : List Str) (gV : List V → List V → List V) (sp : Sp) : Prop where
  mg_ : mg x = some (.ref C)
  mks : PySem.W.makesIn K C = true
  kp : PySem.W.keepIn K (.ref C) = true
  ex : ∃ f fd ps g, FnOk P w K mg base CX k f fd ps sp ∧ PySem.W.findIn K (.ref C) "__init__" = some (some (.ref f)) ∧ PySem.W.isFn K (.ref f) = true ∧ KBn K fd ps 1 ks g gV
def tMakeKS (C : Addr) (m : Nat) (sp : Sp) (gV : List V → List V → List V) (E : L2.St → XK) (tk : TA) : TE := fun σ H Q => tk σ H fun zs H2 => zs.length = m ∧ ∀ x dx, H2 x = none → H2 dx = none → dx ≠ x →
  sp (gV [.ref x] zs) (upd (upd H2 dx (.own x)) x (.ins C dx [])) (fun v H3 => v = .non ∧ Q (.ref x) H3) (E σ)
section
variable {X : Cx} {k j : Nat} {C : Addr} {ks : List Str} {sp : Sp} {x : Str} {p pos : Pos} {kws : List Keyword} {ta : TA} {gV : List V → List V → List V} {W : WX}
theorem pe_mkKS (c : MakW X.prog X.w X.K X.mg X.base (L2.CX X.prog X.w) k x C ks gV sp) (tk : Takes X W) (hr : Room j X.A) (hk : k + 1 ≤ j) (hg : Gl X x) (hkw : PK X kws ta)
    (hall : (backToKw pos (keywordEach kws X.env)).all (·.1.isSome) = true := by rfl) (hks : (backToKw pos (keywordEach kws X.env)).filterMap (·.1) = ks := by rfl) (hdb : (x == ("__debug__" : Str)) = false := by decide)
    (hpl : ((backTo pos (starEach [] X.env)).any (·.1) || (backToKw pos (keywordEach kws X.env)).any (·.1.isNone)) = false := by rfl) :
    PE X (.Call (.Name x p) [] kws pos) (tMakeKS C ks.length sp gV (WE W) ta) := by
  obtain ⟨f, fd, ps, g, F, ini, fn, b⟩ := c.ex
  refine ⟨fun pins s σ H Q I h => wpAny_Call_Name_kw (ld_glob I hg c.mg_ (PySem.W.callWith_KW0 (h₀ := X.base) I.ok.mod.kin c.kp hall ?_ hpl) hdb)⟩
  refine thn (hkw.run pos pins s σ H _ I h) fun ws s2 ⟨zs, H2, J, rz, ln, q⟩ => ⟨J.kIn, ?_⟩
  rw [hks]
  let n := s2.heap.objs.size
  have q1 := q (n + 1) n (J.hok.fresh (Nat.le_succ _)) (J.hok.fresh (Nat.le_refl _)) (Nat.ne_of_lt (Nat.lt_succ_self _))
  have J2 := Inv.made (C := C) J
  have r1 : Vals [V.ref (n + 1)] [Value.ref (n + 1)] := .cons rfl .nil
  have run := F.run _ X.stack _ _ ⟨[Value.ref (n + 1)], ks.zip ws⟩ _ _ _ (WE W σ) ((hr.mono hk).make C [] (ks.zip ws)) (J2.env0.make C [] (ks.zip ws)) (b.to _ [Value.ref (n + 1)] ws J2.kIn rfl (rz.length.symm.trans ln)) (b.rel r1 rz) q1
  show wpAny (model X.prog X.w) X.A (call (.ref C) [] (ks.zip ws)) (EP X pins σ Q) X.xe s2
  refine wpAny_call (make_map (f := f) J.kIn c.mks ini (beq_iff_eq.mp fn) (codeAny_mono run fun o s3 z => ?_))
  match o, z with
  | .error err, z => exact passAt tk σ pins _ _ err s3 J2 z
  | .ok (.ret u), z =>
    obtain ⟨v, H3, J3, rv, ev, q3⟩ := J2.after z
    subst ev
    exact ⟨rv, V.ref (n + 1), H3, J3, rfl, q3⟩
end
section
variable {P : Program} {w : World} {K : PySem.W.Frag} {mg : Str → Option Value} {base : Heap} {k : Nat} {C : Addr} {x qual : Str} {st : Stmt} {N ps ks : List Str} {kws : List (Str × V)} {sp : Sp}
theorem IniK.mak (D : IniK K C qual st kws) (m : mg x = some (.ref C)) (mk : PySem.W.makesIn K C = true) (kp : PySem.W.keepIn K (.ref C) = true) (S : FnScope N ps (defScope st)) (len : ∀ vs H Q E, sp vs H Q E → vs.length = ps.length)
    (ms : List (Str × V)) (g : {α : Type} → List α → List α → List α → List α) (hk : kws ≠ []) (hms : ∀ q ∈ ms, q ∈ kws) (hrel : ∀ {vs mz zs : List V} {us mv ws : List Value}, Vals vs us → Vals mz mv → Vals zs ws → Vals (g vs mz zs) (g us mv ws))
    (hb : ∀ (D : Addr) (doc pm : Value) (an : Option Addr) (cdv ct : Value) (us mv ws : List Value), us.length = 1 → mv.length = ms.length → ws.length = ks.length →
      KwChain D ((ms.map (·.1)).zip mv) (bindArgs (PySem.W.fnOf "__init__" qual (defArgs st) (defBody st) (defScope st) .none (.ref D) doc pm an cdv ct) ⟨us, ks.zip ws⟩) (ps.zip (g us mv ws)))
    (body : ∀ f, BodyX P w K mg base N qual st f k sp) : MakW P w K mg base (L2.CX P w) (k + 1) x C ks (fun vs zs => g vs (ms.map (·.2)) zs) sp :=
  let ⟨f, fd, F, a, i⟩ := D.ex
  let ⟨mv, b⟩ := F.kbinds0 1 ks ms g hk hms hrel hb
  ⟨m, mk, kp, f, fd, ps, _, F.ok S len (body f), a, i, b⟩
end
end Jg
/-! x != y by an own ==; == of data, {} among it -/
namespace Jg
open PySem PySem.Spec PyProof.Rows L2 PySem.W
section
variable {prog : Program} {w : World} {A : Around} {E : Value → Shared → Prop} {s : Shared} {K : Frag} {x C f : Addr} {ox : Obj} {od : Option Obj} {b tb : Value}
theorem ne_entry {Q : Fin → Shared → Prop} (hu : A.units < cLine) (X : K.In s.heap) (I : InstAt s.heap x ox C od) (eq : findIn K (.ref C) "__eq__" = some (some (.ref f))) (fn : isFn K (.ref f) = true)
    (h : wpAny (model prog w) A (call (.ref f) [.ref x, b]) (fun v s' => ∃ c, v = .bool c ∧ Q (.done (.ret (.bool (!c)))) s') E s) : wpAny (model prog w) A (Builtin.«object.__ne__» ⟨[.ref x, b], []⟩) Q E s := by
  unfold Builtin.«object.__ne__»
  refine wpAny_bind (wpAny_of_eq (a := ((Value.ref x : Value), [b])) (by first | rfl | (simp only [slotArgs]; rfl)) ?_)
  refine wpAny_bind (wpAny_cRoomFor hu ?_)
  refine wpAny_bind (ifBound_K (args := [b]) X I eq fn (wpAny_mono h (fun v s' z => ?_) fun _ _ z => z))
  obtain ⟨c, rfl, q⟩ := z
  refine wpAny_bind (wpAny_truthy_bool ?_)
  exact wpAny_pure q
theorem ne_K {Q : Value → Shared → Prop} (hu : A.units + 1 < cLine) (X : K.In s.heap) (I : InstAt s.heap x ox C od) (hb : Looks (model prog w) s.heap (typeOf b) tb) (hn : notFirst K C tb = true)
    (ne : findIn K (.ref C) "__ne__" = some (some (.builtin "object.__ne__"))) (mro : mroIn K C (.type "object") = some true) (eq : findIn K (.ref C) "__eq__" = some (some (.ref f))) (fn : isFn K (.ref f) = true)
    (h : wpAny (model prog w) A.in1 (call (.ref f) [.ref x, b]) (fun v s' => ∃ c, v = .bool c ∧ Q (.bool (!c)) s') E s) : wpAny (model prog w) A (richCompare .NotEq (.ref x) b) Q E s := by
  have isO : Looks (model prog w) s.heap (isInstance (.ref x) (.type "object")) true := I.type.andThen (looks_mroIn X mro)
  have one : wpAny (model prog w) A (tryCompare (.ref x) (cmpInfo .NotEq).2.1 b) (fun r s' => ∃ v, r = some v ∧ Q v s') E s := by
    unfold tryCompare
    refine wpAny_bind ?_
    show wpAny _ _ (callSpecialIfBound? (.ref x) "__ne__" [b]) _ _ _
    simp only [callSpecialIfBound?, bindSpecialIfBound?]
    refine wpAny_holding (wpAny_bind (wpAny_bind (wpAny_bind (I.type.here ((looks_findIn X ne).here ?_)))))
    refine wpAny_bind (wpAny_askSetting (wpAny_ite ?_))
    have fin : ∀ R : Option Value → Shared → Prop, (∀ c s', Q (.bool (!c)) s' → R (some (.bool (!c))) s') → wpAny (model prog w) A (call (.builtin "object.__ne__") ([.ref x] ++ [b]) >>= fun v => pure (some v)) R E s := by
      intro R hR
      refine wpAny_bind (wpAny_call (codeAny_call_builtin F.cmp_object.ne.plain F.cmpEntry_ne (check_slot F.cmpKind_ne F.cmpSplit_ne isO (F.cmpArgs_ne _ _) ?_)))
      refine ne_entry (A := A.in1) hu X I eq fn (wpAny_mono h (fun v s' z => ?_) fun _ _ z => z)
      obtain ⟨c, rfl, q⟩ := z
      exact ⟨c, rfl, wpAny_pure (hR c s' q)⟩
    rw [F.cmp_object.ne.bind (.ref x)]
    split
    · refine wpAny_bind (wpAny_pure (wpAny_pure ?_))
      exact fin _ fun c s' q => wpAny_pure ⟨_, rfl, q⟩
    · refine wpAny_tryCatch (wpAny_bind (wpAny_pure (wpAny_pure ?_)))
      exact fin _ fun c s' q => wpAny_pure ⟨_, rfl, q⟩
  unfold richCompare
  simp only [oneThing_ref]
  refine wpAny_holding (wpAny_bind (wpAny_cRoomFor (Nat.lt_of_succ_lt hu) ?_))
  refine wpAny_bind (I.type.here (wpAny_bind (hb.here ?_)))
  have fin : ∀ s', (∃ v, (∃ r, r = some v ∧ Q v s')) → True := fun _ _ => trivial
  split
  · rename_i q
    have e : subIn K tb (.ref C) = some false := by
      rcases Bool.or_eq_true_iff.mp hn with e | e
      · rw [beq_iff_eq.mp e] at q; simp at q
      · exact beq_iff_eq.mp e
    refine wpAny_bind ((looks_subIn X e).here ?_)
    simp only [Bool.false_eq_true, if_false]
    refine wpAny_bind (wpAny_mono one (fun r s' ⟨v, e, hq⟩ => ?_) fun _ _ e => e)
    subst e
    exact wpAny_pure hq
  · refine wpAny_bind (wpAny_pure ?_)
    simp only [Bool.false_eq_true, if_false]
    refine wpAny_bind (wpAny_mono one (fun r s' ⟨v, e, hq⟩ => ?_) fun _ _ e => e)
    subst e
    exact wpAny_pure hq
end
/-- x != y by the own == of x -/
def rOwnNe (K : PySem.W.Frag) (C : Addr) (sp : Sp) (E : XK) : R2 := fun x y H Q => ∃ a dx fs t, x = .ref a ∧ H a = some (.ins C dx fs) ∧ TyX K H y t ∧ PySem.W.notFirst K C t = true ∧ sp [.ref a, y] H (fun v H' => ∃ c, v = .bl c ∧ Q (.bl (!c)) H') E
theorem op_ne_c {X : Cx} {k j : Nat} {C : Addr} {sp : Sp} (c : Met X.prog X.w X.K X.mg X.base CX0 k C "__eq__" sp) (ne : PySem.W.findIn X.K (.ref C) "__ne__" = some (some (.builtin "object.__ne__"))) (mro : PySem.W.mroIn X.K C (.type "object") = some true) (hr : Room j X.A) (hk : k + 1 ≤ j) :
    OpR X (compareOp .NotEq) (rOwnNe X.K C sp E0) := by
  intro pins s σ H x y v u Q I rx ry h
  obtain ⟨f, fd, ps, F, a0, i0, kp, bd⟩ := c.ex
  obtain ⟨a, dx, fs, t, rfl, ha, ty, nf, q⟩ := h
  cases rx
  obtain ⟨mA, J, _⟩ := ins_get I.hok ha
  obtain ⟨od, J, _⟩ := J.look
  obtain ⟨P, Z, p, _⟩ := kit_of I ry ty
  have rm : Room (k + 1) X.A := hr.mono hk
  show wpAny _ _ (richCompare .NotEq (.ref a) u) _ _ _
  have ln : [Value.ref a, u].length = ps.length := (Paired.length (show Vals [V.ref a, y] [Value.ref a, u] from .cons rfl (.cons ry .nil))).symm.trans (F.len _ _ _ _ q)
  have bb := bd s [Value.ref a, u] I.kIn (by rw [List.append_nil]; exact ln)
  rw [List.append_nil] at bb
  have rr : Vals [V.ref a, y] [Value.ref a, u] := .cons rfl (.cons ry .nil)
  have run := F.run X.A.in1 X.stack s H ⟨[Value.ref a, u], []⟩ _ _ _ E0 rm.in1 I.env0.in1 bb rr q
  refine ne_K (tb := t) (Nat.lt_of_le_of_lt (by omega) hr.units) I.kIn J (Z.ty _ _ I.kIn p) nf ne mro a0 i0 (wpAny_call (codeAny_mono run fun o s2 z => ?_))
  match o, z with
  | .error err, z => exact z.elim
  | .ok (.ret u2), z =>
    obtain ⟨v3, H2, J3, rv3, cc, rfl, q3⟩ := I.after z
    cases rv3
    exact ⟨_, rfl, .bl _, H2, J3, rfl, q3⟩
/-- data, {} among it -/
def DpX (K : PySem.W.Frag) (H : Hp) (v : V) (d : PyData) : Prop := Dp K H v d ∨ ∃ a, v = .ref a ∧ H a = some (.dK []) ∧ d = .dict []
theorem DpX.reads {X : Cx} {pins : List (Addr × Obj)} {σ : L2.St} {H : Hp} {s : Shared} (I : Inv X pins σ H s) {d : PyData} {v : V} {u : Value} (h : DpX X.K H v d) (r : RelV v u) : ∃ as, Reads s.heap u d as := by
  rcases h with h | ⟨a, rfl, e, rfl⟩
  · exact Dp.reads I d v u h r
  · cases r
    obtain ⟨as, z, _⟩ := dk_nil I.hok e
    exact ⟨as, z⟩
/-! ### {} == 'text' -/
end Jg
/-! x + v, v + x by the own methods of x, v of a built-in type; they may raise -/
namespace Jg
open PySem PySem.Spec PyProof.Rows L2 PySem.W
/-! ### the operators at the slots as they stand -/
/-! ### the truth of an instance -/
theorem pt_own {X : Cx} {k j : Nat} {C : Addr} {sp : Sp} {a : Expr} {ta : TE} (c : Met X.prog X.w X.K X.mg X.base CX0 k C "__bool__" sp) (hr : Room j X.A) (hk : k ≤ j) (ha : PE X a ta) (he : ∀ whole, isTrue a X.env whole = (do let v ← whole; standAt a.pos; holding [v] (truthy v)) := by intro _; rfl) :
    PT X a (fun σ H Q => ta σ H fun x H' => ∃ p dx fs, x = .ref p ∧ H' p = some (.ins C dx fs) ∧ sp [.ref p] H' (fun v H2 => ∃ b, v = .bl b ∧ Q b H2) E0) := by
  refine ⟨fun pins s σ H Q I h => isTrue_plain (thn (ha.run pins s σ H _ I h) fun v s1 ⟨x, H1, I1, r1, q1⟩ => ?_) (he _)⟩
  obtain ⟨p, dx, fs, rfl, ea, q⟩ := q1
  cases r1
  obtain ⟨f, fd, ps, F, ini, fn, kp, b⟩ := c.ex
  obtain ⟨mA, J, _⟩ := ins_get I1.hok ea
  obtain ⟨od, J, _⟩ := J.look
  obtain ⟨m, hF⟩ := I1.fr
  refine PySem.W.truthy_K hF I1.ok.mod.kin J ini fn ?_
  refine wpAny_mono (run_fn (us := [.ref p]) (vs := [.ref p]) F (hr.mono hk) b .nil pass0 I1 (.cons rfl .nil) q) (fun u s2 z => ?_) fun _ _ z => z
  obtain ⟨w', H2, I2, rw', bb, rfl, q3⟩ := z
  cases rw'
  exact ⟨H2, I2, q3⟩
/-! ### C.m(e), m a classmethod that may raise -/
/-! ### str(x) by an own __str__ -/
end Jg
/-! texts: list(text), text * number, text.replace of written texts behind another written text -/
namespace Jg
open PySem PySem.Spec PyProof.Rows L2
end Jg
/-! set(words) of a list of texts; sorted and len of it -/
namespace Jg
open PySem PySem.Spec PyProof.Rows L2
def wKey (e : Int × Value) : Str := match e.2 with | .str z _ => z | _ => Str.empty
def IsW (P : Program) (w : World) (e : Int × Value) : Prop := ∃ z tk, e.2 = Value.str z tk ∧ e.1 = (strKind P w).hash z
/-- the set of the texts zs, each once, in any order -/
def SetW (P : Program) (w : World) (h : Heap) (a : Addr) (zs : List Str) : Prop := ∃ o es ep t, h.get? a = some o ∧ o.ExactSet ∧ o.data = .set es ep t ∧ (∀ e ∈ es.toList, IsW P w e) ∧ (es.toList.map wKey).Perm zs ∧ zs.Nodup ∧ zs.length < scanBound ∧
  t.fits es.size = true ∧ Ris t.place.toList ∧ (w.params.followText "set-order" = true ∨ t.led = true)
section
variable {P : Program} {w : World} {h h' : Heap} {a : Addr} {zs : List Str}
theorem SetW.move (R : SetW P w h a zs) (k : ∀ o, h.get? a = some o → h'.get? a = some o) : SetW P w h' a zs :=
  let ⟨o, es, ep, t, ho, r⟩ := R
  ⟨o, es, ep, t, k o ho, r⟩
theorem SetW.cast {ys : List Str} (R : SetW P w h a zs) (e : zs = ys) : SetW P w h a ys := e ▸ R
theorem isW_key {e : Int × Value} (g : IsW P w e) (z : Str) : (strKind P w).is z e.2 = true ↔ wKey e = z := by
  obtain ⟨y, tk, e2, _⟩ := g
  have e3 : wKey e = y := by unfold wKey; rw [e2]
  rw [e3, e2]
  constructor
  · exact fun q => (strKind P w).inj _ _ _ (strKind_is P w y tk) q
  · intro q
    rw [← q]
    exact strKind_is P w y tk
theorem isW_elems {l : List (Int × Value)} (g : ∀ e ∈ l, IsW P w e) : ElemsOf (strKind P w) l := fun e he =>
  let ⟨z, tk, e1, e2⟩ := g e he
  ⟨⟨z, e1 ▸ strKind_is P w z tk, e2⟩, by rw [e1]; rfl⟩
end
section
variable {P : Program} {w : World} {A : Around} {E : Value → Shared → Prop} {s : Shared} {a : Addr} {zs : List Str}
/-- the entries are laid, the table may grow -/
theorem setW_lay {f : Bool → Sem Unit} (pf : ∀ (b : Bool) (s1 : Shared) (K : Unit → Shared → Prop), K () s1 → wpAny (model P w) A (f b) K E s1) {o : Obj} {es xs : Array (Int × Value)} {ep : Nat} {t t2 : SetTable} {ys : List Str} (at_ : s.heap.get? a = some o) (ex : o.ExactSet)
    (dt : o.data = .set es ep t) (gd : ∀ e ∈ xs.toList, IsW P w e) (pm : (xs.toList.map wKey).Perm ys) (nd : ys.Nodup) (few : ys.length < scanBound) (ft : t2.fits xs.size = true) (ri : Ris t2.place.toList) (ld : w.params.followText "set-order" = true ∨ t2.led = true) {dum : Bool}
    {R : Option Bool → Shared → Prop} (k : ∀ h', Heap.SameBut a s.heap h' → SetW P w h' a ys → R (some true) { s with heap := h' }) :
    wpAny (model P w) A (do
        storeSet a xs t2
        if (!dum && t2.tooFull) = true then do
            f (relayAll t2 xs (SetTable.grown xs.size)).2.2
            storeSet a (relayAll t2 xs (SetTable.grown xs.size)).1 (relayAll t2 xs (SetTable.grown xs.size)).2.1
            pure (some true)
          else pure (some true)) R E s := by
  have many : ∀ u : Array (Int × Value), (u.toList.map wKey).Perm ys → u.size < scanBound := fun u q => by
    have z := q.length_eq
    rw [List.length_map, Array.length_toList] at z
    omega
  refine wpAny_bind (wpAny_storeSet_of at_ dt ?_ (fits_of_scanBound (many xs pm)))
  have w1 := store_at (es' := xs) (t' := t2) at_ dt
  have same1 := Heap.SameBut.update s.heap a (Obj.putSet xs t2)
  split
  · have q1 := relayAll_perm t2 xs (SetTable.grown xs.size)
    have q2 := relayAll_fits t2 xs (SetTable.grown xs.size)
    have q3 := relayAll_ris t2 xs (SetTable.grown xs.size)
    have q4 := relayAll_led t2 xs (SetTable.grown xs.size)
    revert q1 q2 q3 q4
    generalize relayAll t2 xs (SetTable.grown xs.size) = Y
    obtain ⟨us, t3, gv⟩ := Y
    intro q1 q2 q3 q4
    have pm2 : (us.toList.map wKey).Perm ys := (q1.map wKey).trans pm
    refine wpAny_bind (pf _ _ _ (wpAny_bind (wpAny_storeSet_of w1 rfl ?_ (fits_of_scanBound (many us pm2)))))
    refine wpAny_pure (k _ (same1.trans (Heap.SameBut.update _ a _)) ⟨_, us, _, t3, store_at (es' := us) (t' := t3) w1 rfl, ex, rfl, fun e he => gd e (q1.mem_iff.mp he), pm2, nd, few, q2, q3, ?_⟩)
    rcases ld with l | l
    · exact .inl l
    · exact .inr (by rw [← l]; exact q4)
  · exact wpAny_pure (k _ same1 ⟨_, xs, _, t2, w1, ex, rfl, gd, pm, nd, few, ft, ri, ld⟩)
theorem setW_add {z : Str} {tk : Tok} {Q : Bool → Shared → Prop} (R : SetW P w s.heap a zs) (room : zs.length + 1 < scanBound) (k : ∀ b h', Heap.SameBut a s.heap h' → SetW P w h' a (if z ∈ zs then zs else z :: zs) → Q b { s with heap := h' }) :
    wpAny (model P w) A (setAddHashed a (.str z tk) ((strKind P w).hash z)) Q E s := by
  obtain ⟨o, es, ep, t, at_, ex, dt, gd, pm, nd, few, ft, ri, ld⟩ := id R
  have el := isW_elems gd
  have small : es.size < scanBound := by
    have q := pm.length_eq
    rw [List.length_map, Array.length_toList] at q
    omega
  have sc : (Value.str z tk).scannable = true := rfl
  have isz : (strKind P w).is z (.str z tk) = true := strKind_is P w z tk
  unfold setAddHashed setAddHashedIn
  refine wpAny_holding (wpAny_bind (wpAny_setState_of at_ dt ft ?_))
  dsimp only
  rw [byScan_of sc small el]
  simp only [↓reduceIte]
  unfold setAddByScan
  refine wpAny_bind (wpAny_bind (wpAny_rule (wpAny_bind (wpAny_setScan_of isz at_ dt ft el ?_))))
  cases fi : List.findIdx? (fun e => (strKind P w).is z e.2) es.toList with
  | some j =>
    dsimp only
    obtain ⟨lt, yes, _⟩ := List.findIdx?_eq_some_iff_getElem.mp fi
    have mem : z ∈ zs := pm.mem_iff.mp (List.mem_map.mpr ⟨_, List.getElem_mem lt, (isW_key (gd _ (List.getElem_mem lt)) z).mp yes⟩)
    exact wpAny_pure (wpAny_pure (k _ s.heap (Heap.SameBut.refl a s.heap) (R.cast (if_pos mem).symm)))
  | none =>
    dsimp only
    have out : z ∉ zs := fun m => by
      obtain ⟨e, he, q⟩ := List.mem_map.mp (pm.mem_iff.mpr m)
      have c := List.findIdx?_eq_none_iff.mp fi e he
      rw [(isW_key (gd e he) z).mpr q] at c
      cases c
    rw [if_neg out] at k
    have q1 := layNew_perm t es ((strKind P w).hash z) (.str z tk)
    have q2 := layNew_fits t es ((strKind P w).hash z) (.str z tk)
    have q3 := layNew_ris t es ((strKind P w).hash z) (.str z tk) ri
    have q4 := layNew_led t es ((strKind P w).hash z) (.str z tk)
    revert q1 q2 q3 q4
    generalize layNew t es ((strKind P w).hash z) (.str z tk) = Y
    obtain ⟨xs, t1, dum, gv⟩ := Y
    intro q1 q2 q3 q4
    have pc : xs.toList.Perm (((strKind P w).hash z, Value.str z tk) :: es.toList) := by
      have q := q1
      rw [Array.toList_push] at q
      exact q.trans (List.perm_append_singleton _ _)
    have pz : (xs.toList.map wKey).Perm (z :: zs) := (pc.map wKey).trans (List.Perm.cons z pm)
    have gd2 : ∀ e ∈ xs.toList, IsW P w e := fun e he => (List.mem_cons.mp (pc.mem_iff.mp he)).elim (fun q => q ▸ ⟨z, tk, rfl, rfl⟩) (gd e)
    have ld2 : w.params.followText "set-order" = true ∨ t1.led = true := ld.elim .inl fun l => .inr (by rw [← l]; exact q4)
    have few2 : (z :: zs).length < scanBound := room
    refine wpAny_bind ?_
    refine (fun (m : ∀ {K : Unit → Shared → Prop}, K () s → wpAny (model P w) A _ K E s) (r : _) => m r) (fun q => by cases gv <;> first | exact wpAny_pure q | exact wpAny_rule q) ?_
    split
    · refine wpAny_bind ?_
      rw [hashByValue_scannable 8 sc]
      refine wpAny_pure (setW_lay (fun b s1 K q => by cases b <;> first | exact wpAny_pure q | exact wpAny_rule q) at_ ex dt gd2 pz (List.nodup_cons.mpr ⟨out, nd⟩) few2 ?_ ?_ ?_ fun h' sb r => wpAny_pure (k _ h' sb r))
      · first | (split <;> first | exact q2 | exact SetTable.fits_plain_off q2) | exact q2
      · first | (split <;> exact q3) | exact q3
      · first | (split <;> exact ld2) | exact ld2
    · refine wpAny_bind (wpAny_pure ?_)
      simp only [↓reduceIte]
      exact setW_lay (fun b s1 K q => by cases b <;> first | exact wpAny_pure q | exact wpAny_rule q) at_ ex dt gd2 pz (List.nodup_cons.mpr ⟨out, nd⟩) few2 q2 q3 ld2 fun h' sb r => wpAny_pure (k _ h' sb r)
end
/-- each text once -/
def addW (l : List Str) (z : Str) : List Str := if z ∈ l then l else z :: l
def onceW (ks : List Str) : List Str := ks.foldl addW []
theorem addW_len (l : List Str) (z : Str) : (addW l z).length ≤ l.length + 1 := by
  unfold addW
  split
  · omega
  · exact Nat.le_refl _
theorem fold_len : ∀ (ks l : List Str), (ks.foldl addW l).length ≤ l.length + ks.length
  | [], l => Nat.le_refl _
  | z :: r, l => by
    have h1 := fold_len r (addW l z)
    have h2 := addW_len l z
    rw [List.foldl_cons, List.length_cons]
    omega
theorem onceW_len (ks : List Str) : (onceW ks).length ≤ ks.length := by
  have h := fold_len ks []
  rw [List.length_nil, Nat.zero_add] at h
  exact h
theorem fold_mem : ∀ (ks l : List Str) (z : Str), z ∈ ks.foldl addW l ↔ z ∈ l ∨ z ∈ ks
  | [], l, z => by simp
  | y :: r, l, z => by
    rw [List.foldl_cons, fold_mem r]
    unfold addW
    by_cases m : y ∈ l
    · rw [if_pos m, List.mem_cons]
      constructor
      · exact fun q => q.elim .inl fun q => .inr (.inr q)
      · rintro (q | q | q)
        · exact .inl q
        · exact .inl (q ▸ m)
        · exact .inr q
    · rw [if_neg m, List.mem_cons, List.mem_cons]
      constructor
      · rintro ((q | q) | q)
        · exact .inr (.inl q)
        · exact .inl q
        · exact .inr (.inr q)
      · rintro (q | q | q)
        · exact .inl (.inr q)
        · exact .inl (.inl q)
        · exact .inr q
theorem onceW_mem {ks : List Str} {z : Str} : z ∈ onceW ks ↔ z ∈ ks := by
  unfold onceW
  rw [fold_mem]
  simp
theorem onceW_nodup : ∀ (ks l : List Str), l.Nodup → (ks.foldl addW l).Nodup
  | [], _, h => h
  | z :: r, l, h => by
    rw [List.foldl_cons]
    refine onceW_nodup r _ ?_
    unfold addW
    split
    · exact h
    · exact List.nodup_cons.mpr ⟨by assumption, h⟩
/-- as many as there are texts: just if all are different -/
theorem onceW_all : ∀ (ks l : List Str), (ks.foldl addW l).length = l.length + ks.length ↔ ks.Nodup ∧ ∀ z ∈ ks, z ∉ l
  | [], l => ⟨fun _ => ⟨List.Pairwise.nil, fun _ h => nomatch h⟩, fun _ => rfl⟩
  | z :: r, l => by
    have ih := onceW_all r (addW l z)
    have le := fold_len r (addW l z)
    rw [List.foldl_cons, List.length_cons, List.nodup_cons]
    unfold addW at ih le ⊢
    by_cases m : z ∈ l
    · rw [if_pos m] at le ⊢
      constructor
      · intro h; omega
      · intro h
        exact absurd m (h.2 z List.mem_cons_self)
    · rw [if_neg m] at ih le ⊢
      rw [List.length_cons] at ih le
      constructor
      · intro h
        obtain ⟨n, o⟩ := ih.mp (by omega)
        refine ⟨⟨fun q => o z q List.mem_cons_self, n⟩, fun y hy => ?_⟩
        rcases List.mem_cons.mp hy with e | e
        · rw [e]; exact m
        · exact fun q => o y e (List.mem_cons_of_mem _ q)
      · rintro ⟨⟨n1, n2⟩, o⟩
        have := ih.mpr ⟨n2, fun y hy q => (List.mem_cons.mp q).elim (fun e => n1 (e ▸ hy)) (o y (List.mem_cons_of_mem _ hy))⟩
        omega
section
variable {P : Program} {w : World} {A : Around} {E : Value → Shared → Prop} {s : Shared}
theorem setW_new {h : Heap} {a : Addr} (e : h.get? a = some (mtSet w)) : SetW P w h a [] :=
  ⟨_, #[], 0, _, e, ⟨rfl, rfl, rfl⟩, rfl, (fun _ q => absurd q (by simp)), List.Perm.nil, List.Pairwise.nil, by decide, by rfl, List.Pairwise.nil, by
    show _ ∨ (!w.params.followText "set-order") = true
    cases w.params.followText "set-order" with
    | true => exact .inl rfl
    | false => exact .inr rfl⟩
/-- the loop behind set(x), over texts -/
theorem words_loop {it st : Addr} {fp wr : List Addr} {G : Array GenState → Array GenState → Prop} {m : Nat} {Pv : Nat → Value → Prop} {At : Nat → Shared → Prop} {R : Result → Shared → Prop} (T : WalksS P w A.in1 it fp wr G m Pv At) (off : st ∉ fp) (ks : List Str) (em : m = ks.length)
    (few : ks.length + 1 < scanBound) (vals : ∀ i v, Pv i v → ∃ z t, ks[i]? = some z ∧ v = .str z t) :
    ∀ (left i : Nat) (s : Shared), m - i = left → i ≤ m → At i s → SetW P w s.heap st (onceW (ks.take i)) → (∀ q, Moved (st :: wr) G s q → SetW P w q.heap st (onceW ks) → R (.ok (.ret .none)) q) →
      codeAny (model P w) A (.builtin "set.update.loop" ⟨[.ref st, .ref it], []⟩) R s := by
  have offw : st ∉ wr := fun z => off (T.sub _ z)
  have up : ∀ b ∈ wr, b ∈ st :: wr := fun _ z => List.mem_cons_of_mem _ z
  intro left
  induction left with
  | zero =>
    intro i s e le at_ W k
    obtain rfl : i = m := by omega
    refine codeAny_builtin F.entry_set_update_loop ?_
    rw [Around.under_plainId F.plain_set_update_loop _]
    refine wpAny_bind (m := pyNext (.ref it)) (T.done s _ _ at_ fun q mv => ?_)
    have all : ks.take i = ks := List.take_of_length_le (by omega)
    rw [all] at W
    exact wpAny_pure (k q (mv.mono up) (W.move fun o e => mv.heap st o offw e))
  | succ left ih =>
    intro i s e le at_ W k
    have lt : i < m := by omega
    refine codeAny_builtin F.entry_set_update_loop ?_
    rw [Around.under_plainId F.plain_set_update_loop _]
    refine wpAny_bind (m := pyNext (.ref it)) (T.item i s _ _ lt at_ fun v q pv at2 mv => ?_)
    obtain ⟨z, t, ez, rfl⟩ := vals i v pv
    have W2 : SetW P w q.heap st (onceW (ks.take i)) := W.move fun o e => mv.heap st o offw e
    refine wpAny_bind (m := holding [Value.str z t] (setAdd st (.str z t))) (wpAny_holding ?_)
    unfold setAdd
    refine wpAny_holding (wpAny_bind ((strKind P w).pyHash (k := z) (strKind_is _ _ _ _) ?_))
    have room : (onceW (ks.take i)).length + 1 < scanBound := by
      have h1 := onceW_len (ks.take i)
      rw [List.length_take] at h1
      omega
    refine setW_add (s := { q with toks := q.toks + 1 }) W2 room fun b h2 sb W3 => ?_
    have nx : (if z ∈ onceW (ks.take i) then onceW (ks.take i) else z :: onceW (ks.take i)) = onceW (ks.take (i + 1)) := by
      have e1 : ks.take (i + 1) = ks.take i ++ [z] := by rw [List.take_add_one, ez]; rfl
      rw [e1]
      unfold onceW
      rw [List.foldl_append]
      rfl
    rw [nx] at W3
    have still : ∀ c, c ≠ st → ∀ o, q.heap.get? c = some o → h2.get? c = some o := fun c n o e => by rw [sb.2 c n]; exact e
    refine wpAny_pure ⟨plainId_quiet F.plain_set_update_loop _, ih (i + 1) _ (by omega) lt (T.frame _ q _ _ at2 (Nat.le_succ _) fun c hc o e => still c (fun n => off (n ▸ hc)) o e) W3 fun y mv2 Wy => k y ?_ Wy⟩
    exact Moved.trans T.gtrans ((mv.mono up).then_heap (Nat.le_succ _) fun c o hc e => still c (fun n => hc (n ▸ List.mem_cons_self)) o e) mv2
end
section
variable {P : Program} {w : World} {A : Around} {E : Value → Shared → Prop} {s : Shared}
/-- what stands behind set(x) of texts -/
abbrev WordsDone (P : Program) (w : World) (s : Shared) (ks : List Str) (s₂ : Shared) : Prop :=
  ∃ h' tk, s₂ = { s with heap := h', toks := tk } ∧ SetW P w h' s.heap.objs.size (onceW ks) ∧ ∀ b o, s.heap.get? b = some o → h'.get? b = some o
set_option maxHeartbeats 8000000 in
theorem set_of_words {l : Addr} {items : Array Value} (ks : List Str) {Q : Value → Shared → Prop} (hh : A.handled = none) (hl : s.heap.IsList l items) (hsz : items.size = ks.length) (hit : ∀ (i : Nat) (v : Value), items[i]? = some v → ∃ z t, ks[i]? = some z ∧ v = .str z t) (hb : ks.length + 1 < scanBound)
    (h : ∀ s₂, WordsDone P w s ks s₂ → Q (.ref s.heap.objs.size) s₂) : wpAny (model P w) A (call (.type "set") [.ref l]) Q E s := by
  obtain ⟨c, tl, hmro⟩ := F.called_set.mro
  have m1 := F.called_set.made
  have m2 := F.called_set.sub
  have m3 := F.called_set.notType
  have m4 := F.called_set.canCreate
  have m5 := F.typeCall_set_1 (.ref l)
  refine wpAny_call (codeAny_of_tree (show wpAny _ _ (callAny (.type "set") _) _ _ _ from wpAny_pure ⟨Code.quiet_builtin _ (by decide +kernel), codeAny_builtin F.entry_type_call ?_⟩))
  rw [Around.under_plain (weight_type_call_type "set" [.ref l] []) rfl]
  repeat (any_goals (first | assumption | wp_step))
  refine codeAny_mono (code_set_led1 (.ref l) (E := E) (Q₁ := fun obj s₁ => obj = .ref s.heap.objs.size ∧ s₁ = { s with heap := s.heap.push (mtSet w) }) ⟨rfl, rfl⟩) fun r s₁ hr => ?_
  match r, hr with
  | .error e, hr => exact hr
  | .ok (.ret obj), hr =>
    obtain ⟨rfl, rfl⟩ := hr
    have new := mt_at w s.heap
    have ty : Shared.TypeIs { s with heap := s.heap.push (mtSet w) } (.ref s.heap.objs.size) "set" := ⟨_, new, rfl⟩
    have m6 := F.called_set.init.lookup
    have m7 := F.called_set.init.bind (.ref s.heap.objs.size)
    repeat (any_goals (first | assumption | wp_step))
    refine codeAny_mono (codeAny_call_builtin (R := wants (fun r s₂ => r = .none ∧ WordsDone P w s ks s₂) E) F.called_set.init.plain F.entry_set_init (check_set_init_1 ty ?_)) fun r₂ s₂ hr₂ => ?_
    · obtain ⟨⟨ocls, odict, odata, oslots⟩, hol, hcl, nl, hdl⟩ := hl
      simp only at hcl hdl
      subst hcl; subst hdl
      have lt : l < s.heap.objs.size := Heap.lt_size hol
      have old : (s.heap.push (mtSet w)).get? l = some { cls := .type "list", dict := odict, data := .seq items nl, slots := oslots } := Heap.get?_push_of_some _ hol
      have il : (s.heap.push (mtSet w)).IsList l items := ⟨_, old, rfl, nl, rfl⟩
      have n1 := F.sub_list_set
      have n2 := F.sub_list_frozenset
      have n3 : (Value.type "list" == Value.type "dict") = false := by decide
      have sz : (s.heap.push (mtSet w)).objs.size = s.heap.objs.size + 1 := Heap.size_push ..
      unfold Builtin.«set.__init__» noKeywords Builtin.Frozenset.updateFrom
      generalize hPI : pyIter = PI
      wp_walk
      subst hPI
      refine wpAny_pyIter_list il (wpAny_bind (wpAny_runValue ?_))
      have apart : l ≠ (s.heap.push (mtSet w)).objs.size := by rw [sz]; exact Nat.ne_of_lt (Nat.lt_succ_of_lt lt)
      refine words_loop (P := P) (w := w) ((Walks.list (show A.in1.in1.in1.handled = none by simp [hh]) _ l apart items).toS) (st := s.heap.objs.size) ?_ ks hsz hb hit (items.size - 0) 0 _ (by omega) (Nat.zero_le _)
        ⟨⟨_, Heap.get?_push_size _ rfl, rfl, rfl⟩, il.push _⟩ (setW_new (Heap.get?_push_of_some _ new)) fun s' hm hS' => ?_
      · rw [sz]
        intro z
        rcases List.mem_cons.mp z with z | z
        · exact absurd z (Nat.ne_of_lt (Nat.lt_succ_self _))
        · rcases List.mem_cons.mp z with z | z
          · exact absurd z (Nat.ne_of_gt lt)
          · cases z
      · obtain ⟨h', g2, d', tk', os'⟩ := s'
        obtain rfl : g2 = s.gens := hm.gens
        obtain rfl : d' = s.drawn := hm.drawn
        obtain rfl : os' = s.os := hm.os
        refine wpAny_pure (show wpAny _ _ (ret Value.none) _ _ _ from wpAny_pure ⟨rfl, h', tk', rfl, hS', fun b o e => ?_⟩)
        have lb : b < s.heap.objs.size := Heap.lt_size e
        refine hm.heap b o (fun z => ?_) (Heap.get?_push_of_some _ (Heap.get?_push_of_some _ e))
        rcases List.mem_cons.mp z with z | z
        · exact absurd z (Nat.ne_of_lt lb)
        · rcases List.mem_cons.mp z with z | z
          · rw [sz] at z
            exact absurd z (Nat.ne_of_lt (Nat.lt_succ_of_lt lb))
          · cases z
    · match r₂, hr₂ with
      | .error e, hr₂ => exact hr₂
      | .ok (.ret r), hr₂ =>
        obtain ⟨rfl, done⟩ := hr₂
        repeat (any_goals (first | assumption | wp_step))
        exact h _ done
end
end Jg
/-! set(words), sorted(set of words), len(set of words) as rules -/
namespace Jg
open PySem PySem.Spec PyProof.Rows L2
/-- the set of the texts zs at a -/
def SetWO (P : Program) (w : World) (a : Addr) (zs : List Str) : HO := .ext fun h => SetW P w h a zs
theorem setW_ok {w : World} {P : Program} {H : Hp} {h : Heap} {a : Addr} {zs : List Str} (R : SetW P w h a zs) : ObjOk P w H h a (SetWO P w a zs) := by
  have ⟨o, _, _, _, ho, _⟩ := R
  exact ⟨R, ⟨o, ho⟩, fun h1 h2 p k => SetW.move p k⟩
section
variable {X : Cx}
theorem setW_get {pins : List (Addr × Obj)} {σ : L2.St} {H : Hp} {s : Shared} {a : Addr} {zs : List Str} (I : Inv X pins σ H s) (e : H a = some (SetWO X.prog X.w a zs)) : SetW X.prog X.w s.heap a zs := (I.hok a _ e).1
/-- set(xs) of a list of texts -/
def rSetW (X : Cx) : List V → Hp → VK → Prop := fun xs H Q => ∃ (a : Addr) (ks : List Str), xs = [.ref a] ∧ SqL X.K H a (ks.map V.str) ∧ ks.length + 1 < scanBound ∧ ∀ p, H p = none → Q (.ref p) (upd H p (SetWO X.prog X.w p (onceW ks)))
theorem strs_at {ks : List Str} : ∀ {us : List Value}, Vals (ks.map V.str) us → us.length = ks.length ∧ ∀ (i : Nat) (v : Value), us[i]? = some v → ∃ z t, ks[i]? = some z ∧ v = .str z t := by
  induction ks with
  | nil =>
    intro us r
    cases r
    exact ⟨rfl, fun i v h => by simp at h⟩
  | cons z ks ih =>
    intro us r
    rw [List.map_cons] at r
    cases r with
    | cons r1 r2 =>
      obtain ⟨t, e⟩ := r1
      obtain ⟨h1, h2⟩ := ih r2
      refine ⟨by rw [List.length_cons, List.length_cons, h1], fun i v h => ?_⟩
      cases i with
      | zero => exact ⟨z, t, rfl, by rw [← e]; exact (Option.some.inj h).symm⟩
      | succ i => exact h2 i v h
theorem cr_setW (hc : X.calm = true) : CallR X (.type "set") (rSetW X) := by
  intro pins s σ H xs us Q I r h
  obtain ⟨a, ks, rfl, hs, few, q⟩ := h
  obtain ⟨u, rfl, ru⟩ := vals1 r
  cases ru
  obtain ⟨its, rv, p, _⟩ := I.list hs
  obtain ⟨ln, at_⟩ := strs_at rv
  refine set_of_words ks (I.ok.hd hc) p.isList (by simpa using ln) (fun i v h => at_ i v (by simpa using h)) few fun s₂ ⟨h', tk, e, R, k⟩ => ?_
  subst e
  exact ⟨.ref s.heap.objs.size, _, I.laid (t' := tk) k (Nat.le_refl _) (setW_ok R), rfl, q _ (I.hok.fresh (Nat.le_refl _))⟩
end
section
variable {P : Program} {w : World} {A : Around} {E : Value → Shared → Prop} {s : Shared} {a : Addr} {zs : List Str}
theorem strs_of : ∀ l : List Value, (∀ v ∈ l, ∃ z t, v = Value.str z t) → ∃ ys : List Str, StrsAre l ys ∧ ∀ f : Value → Str, (∀ z t, f (.str z t) = z) → l.map f = ys
  | [], _ => ⟨[], .nil, fun _ _ => rfl⟩
  | v :: l, h => by
    obtain ⟨z, t, e⟩ := h v List.mem_cons_self
    obtain ⟨ys, h1, h2⟩ := strs_of l fun u hu => h u (List.mem_cons_of_mem _ hu)
    subst e
    exact ⟨z :: ys, .cons z t h1, fun f hf => by rw [List.map_cons, hf, h2 f hf]⟩
def txtOf (v : Value) : Str := match v with | .str z _ => z | _ => Str.empty
theorem sorted_words {Q : Value → Shared → Prop} (R : SetW P w s.heap a zs) (hh : A.handled = none) (few : zs.length < 64)
    (k : ∀ s' p (out : Array Value) (c : Nat) (ys : List Str), (∀ b o, s.heap.get? b = some o → s'.heap.get? b = some o) → s'.gens = s.gens → s'.os = s.os → s.heap.objs.size ≤ p → s'.heap.get? p = some (seqObj "list" out c) → StrsAre out.toList ys → ys.Perm zs → sortedS ys = true → Q (.ref p) s') :
    wpAny (model P w) A (call (.builtin "sorted") [.ref a]) Q E s := by
  obtain ⟨o, es, ep, t, at_, ex, dt, gd, pm, nd, fw, ft, ri, ld⟩ := R
  have small : es.size = zs.length := by
    have q := pm.length_eq
    rw [List.length_map, Array.length_toList] at q
    exact q
  refine Calls.call_function_entry kind_sorted plain_sorted entry_sorted (args_sorted1 _) ?_
  unfold Builtin.«sorted»
  refine wpAny_bind (m := checkCount "sorted" 1 1 _) (wpAny_pure (wpAny_bind (collect_set (A := A.in1) hh ⟨o, at_, ex.1, dt⟩ ft (by rw [small]; exact fw) ri ld fun s1 vs k1 up g1 o1 perm => ?_)))
  have len : vs.length = zs.length := by rw [perm.length_eq, List.length_map, Array.length_toList, small]
  obtain ⟨ys, sa, ym⟩ := strs_of vs fun v hv => by
    obtain ⟨e, he, q⟩ := List.mem_map.mp (perm.mem_iff.mp hv)
    obtain ⟨z, tk, e1, _⟩ := gd e he
    exact ⟨z, tk, by rw [← q]; exact e1⟩
  have py : ys.Perm zs := by
    have q := perm.map txtOf
    rw [ym txtOf fun _ _ => rfl, List.map_map] at q
    exact q.trans pm
  refine wpAny_bind (wpAny_newList ?_ (by rw [len, sizeLine_eq]; omega))
  have new : (s1.heap.push (seqObj "list" vs.toArray 0)).get? s1.heap.objs.size = some (seqObj "list" vs.toArray 0) := Heap.get?_push_size _ rfl
  refine wpAny_bind (wpAny_holding (wpAny_call_entry slot_list_sort ⟨_, new, rfl⟩ entry_list_sort
    (list_sort_treeK strKind_oneLt new sa.keysOf (fun v₁ v₂ rest e => keyKind_strs (by rw [← e]; exact sa)) (by rw [len]; exact few) fun st' hp hs => ⟨_, rfl, ?_⟩) (args_list_sort _)))
  obtain ⟨ss, g2, g3, g4⟩ := sorted_out_str sa hp hs
  obtain ⟨c, hc⟩ := sortedHeap_at (vs := vs) (out := (arrOf st').map (·.2)) new
  refine wpAny_pure ⟨_, rfl, k _ s1.heap.objs.size _ c ss (fun b u e => ?_) g1 o1 up hc g2 (g3.trans py) g4⟩
  have q := k1 b u e
  have lt := Heap.lt_size q
  show (sortedHeap (s1.heap.push (seqObj "list" vs.toArray 0)) s1.heap.objs.size vs _).get? b = some u
  rw [sortedHeap_old (Nat.ne_of_lt lt) (by rw [Heap.size_push]; exact Nat.lt_succ_of_lt lt)]
  exact Heap.get?_push_of_some _ q
end
/-- sorted(words) of a set -/
def rSortW (X : Cx) : List V → Hp → VK → Prop := fun vs H Q => ∃ (a : Addr) (zs : List Str), vs = [V.ref a] ∧ H a = some (SetWO X.prog X.w a zs) ∧ zs.length < 64 ∧ ∀ (ys : List Str) (p : Addr), ys.Perm zs → sortedS ys = true → H p = none → Q (.ref p) (upd H p (.lst (ys.map V.str)))
theorem cr_sortW {X : Cx} (hc : X.calm = true) : CallR X (.builtin "sorted") (rSortW X) := by
  intro pins s σ H vs us Q I r h
  obtain ⟨a, zs, rfl, ha, few, q⟩ := h
  have R := setW_get I ha
  rw [Vals.ref1 r]
  refine sorted_words R (I.ok.hd hc) few fun s' p out c ys k g o up e sa pm so => ?_
  have len : (ys.map V.str).length ≤ sizeLine := by rw [List.length_map, pm.length_eq, sizeLine_eq]; omega
  have nw : H p = none := I.hok.fresh up
  have J : Inv X pins σ (upd H p (.lst (ys.map V.str))) { s with heap := s'.heap, gens := s'.gens, drawn := s'.drawn, toks := s'.toks } :=
    I.call (ch := []) (Un.laid k up nw) (I.hok.laid k up ⟨len, out.toList, c, vals_of_strs sa, e⟩) (by rw [g]; exact I.bare) fun _ z => nomatch z
  have es : s' = { s with heap := s'.heap, gens := s'.gens, drawn := s'.drawn, toks := s'.toks } := by
    cases s'
    cases s
    cases o
    rfl
  rw [es]
  exact ⟨.ref p, _, J, rfl, q ys p pm so nw⟩
/-- len of a set of texts -/
def rLenW (X : Cx) : List V → Hp → VK → Prop := fun xs H Q => ∃ (a : Addr) (zs : List Str), xs = [.ref a] ∧ H a = some (SetWO X.prog X.w a zs) ∧ Q (.int zs.length) H
theorem call_lenW {X : Cx} : CallR X (.builtin "len") (rLenW X) := by
  intro pins s σ H xs us Q I r h
  obtain ⟨a, zs, rfl, ha, q⟩ := h
  rw [Vals.ref1 r]
  obtain ⟨o, es, ep, t, at_, ex, dt, gd, pm, nd, fw, ft, _⟩ := setW_get I ha
  have n : es.size = zs.length := by
    have z := pm.length_eq
    rw [List.length_map, Array.length_toList] at z
    exact z
  have small : scanBound < 2 ^ 62 := by decide
  have e : ((es.size : Nat) : Int) = ((zs.length : Nat) : Int) := by rw [n]
  exact PySem.call_len_set at_ ex dt ft (by rw [n]; omega) (e ▸ ⟨.int zs.length, H, I.tok _, ⟨_, rfl⟩, q⟩)
end Jg
/-! set(words) of a tuple of texts -/
namespace Jg
open PySem PySem.Spec PyProof.Rows L2
section
variable {P : Program} {w : World} {A : Around} {E : Value → Shared → Prop} {s : Shared}
set_option maxHeartbeats 8000000 in
theorem set_of_wordsT {l : Addr} {items : Array Value} (ks : List Str) {Q : Value → Shared → Prop} (hh : A.handled = none) (hl : s.heap.IsTuple l items) (hsz : items.size = ks.length) (hit : ∀ (i : Nat) (v : Value), items[i]? = some v → ∃ z t, ks[i]? = some z ∧ v = .str z t) (hb : ks.length + 1 < scanBound)
    (h : ∀ s₂, WordsDone P w s ks s₂ → Q (.ref s.heap.objs.size) s₂) : wpAny (model P w) A (call (.type "set") [.ref l]) Q E s := by
  obtain ⟨c, tl, hmro⟩ := F.called_set.mro
  have m1 := F.called_set.made
  have m2 := F.called_set.sub
  have m3 := F.called_set.notType
  have m4 := F.called_set.canCreate
  have m5 := F.typeCall_set_1 (.ref l)
  refine wpAny_call (codeAny_of_tree (show wpAny _ _ (callAny (.type "set") _) _ _ _ from wpAny_pure ⟨Code.quiet_builtin _ (by decide +kernel), codeAny_builtin F.entry_type_call ?_⟩))
  rw [Around.under_plain (weight_type_call_type "set" [.ref l] []) rfl]
  repeat (any_goals (first | assumption | wp_step))
  refine codeAny_mono (code_set_led1 (.ref l) (E := E) (Q₁ := fun obj s₁ => obj = .ref s.heap.objs.size ∧ s₁ = { s with heap := s.heap.push (mtSet w) }) ⟨rfl, rfl⟩) fun r s₁ hr => ?_
  match r, hr with
  | .error e, hr => exact hr
  | .ok (.ret obj), hr =>
    obtain ⟨rfl, rfl⟩ := hr
    have new := mt_at w s.heap
    have ty : Shared.TypeIs { s with heap := s.heap.push (mtSet w) } (.ref s.heap.objs.size) "set" := ⟨_, new, rfl⟩
    have m6 := F.called_set.init.lookup
    have m7 := F.called_set.init.bind (.ref s.heap.objs.size)
    repeat (any_goals (first | assumption | wp_step))
    refine codeAny_mono (codeAny_call_builtin (R := wants (fun r s₂ => r = .none ∧ WordsDone P w s ks s₂) E) F.called_set.init.plain F.entry_set_init (check_set_init_1 ty ?_)) fun r₂ s₂ hr₂ => ?_
    · obtain ⟨⟨ocls, odict, odata, oslots⟩, hol, hcl, nl, hdl⟩ := hl
      simp only at hcl hdl
      subst hcl; subst hdl
      have lt : l < s.heap.objs.size := Heap.lt_size hol
      have old : (s.heap.push (mtSet w)).get? l = some { cls := .type "tuple", dict := odict, data := .seq items nl, slots := oslots } := Heap.get?_push_of_some _ hol
      have il : (s.heap.push (mtSet w)).IsTuple l items := ⟨_, old, rfl, nl, rfl⟩
      have n1 := F.sub_tuple_set
      have n2 := F.sub_tuple_frozenset
      have n3 : (Value.type "tuple" == Value.type "dict") = false := by decide
      have sz : (s.heap.push (mtSet w)).objs.size = s.heap.objs.size + 1 := Heap.size_push ..
      unfold Builtin.«set.__init__» noKeywords Builtin.Frozenset.updateFrom
      generalize hPI : pyIter = PI
      wp_walk
      subst hPI
      refine wpAny_pyIter_tuple il (wpAny_bind (wpAny_runValue ?_))
      have apart : l ≠ (s.heap.push (mtSet w)).objs.size := by rw [sz]; exact Nat.ne_of_lt (Nat.lt_succ_of_lt lt)
      refine words_loop (P := P) (w := w) ((Walks.tuple (show A.in1.in1.in1.handled = none by simp [hh]) _ l apart items).toS) (st := s.heap.objs.size) ?_ ks hsz hb hit (items.size - 0) 0 _ (by omega) (Nat.zero_le _)
        ⟨⟨_, Heap.get?_push_size _ rfl, rfl, rfl⟩, il.push _⟩ (setW_new (Heap.get?_push_of_some _ new)) fun s' hm hS' => ?_
      · rw [sz]
        intro z
        rcases List.mem_cons.mp z with z | z
        · exact absurd z (Nat.ne_of_lt (Nat.lt_succ_self _))
        · rcases List.mem_cons.mp z with z | z
          · exact absurd z (Nat.ne_of_gt lt)
          · cases z
      · obtain ⟨h', g2, d', tk', os'⟩ := s'
        obtain rfl : g2 = s.gens := hm.gens
        obtain rfl : d' = s.drawn := hm.drawn
        obtain rfl : os' = s.os := hm.os
        refine wpAny_pure (show wpAny _ _ (ret Value.none) _ _ _ from wpAny_pure ⟨rfl, h', tk', rfl, hS', fun b o e => ?_⟩)
        have lb : b < s.heap.objs.size := Heap.lt_size e
        refine hm.heap b o (fun z => ?_) (Heap.get?_push_of_some _ (Heap.get?_push_of_some _ e))
        rcases List.mem_cons.mp z with z | z
        · exact absurd z (Nat.ne_of_lt lb)
        · rcases List.mem_cons.mp z with z | z
          · rw [sz] at z
            exact absurd z (Nat.ne_of_lt (Nat.lt_succ_of_lt lb))
          · cases z
    · match r₂, hr₂ with
      | .error e, hr₂ => exact hr₂
      | .ok (.ret r), hr₂ =>
        obtain ⟨rfl, done⟩ := hr₂
        repeat (any_goals (first | assumption | wp_step))
        exact h _ done
end
/-- set(x) of a list or a tuple of texts -/
def rSetW2 (X : Cx) : List V → Hp → VK → Prop := fun xs H Q => ∃ (a : Addr) (ks : List Str), xs = [.ref a] ∧ (SqL X.K H a (ks.map V.str) ∨ SqT X.K H a (ks.map V.str)) ∧ ks.length + 1 < scanBound ∧ ∀ p, H p = none → Q (.ref p) (upd H p (SetWO X.prog X.w p (onceW ks)))
theorem cr_setW2 {X : Cx} (hc : X.calm = true) : CallR X (.type "set") (rSetW2 X) := by
  intro pins s σ H xs us Q I r h
  obtain ⟨a, ks, rfl, hs | hs, few, q⟩ := h
  · exact cr_setW hc pins s σ H _ us Q I r ⟨a, ks, rfl, hs, few, q⟩
  · obtain ⟨u, rfl, ru⟩ := vals1 r
    cases ru
    obtain ⟨its, rv, p, _⟩ := I.tuple hs
    obtain ⟨ln, at_⟩ := strs_at rv
    refine set_of_wordsT ks (I.ok.hd hc) p (by simpa using ln) (fun i v h => at_ i v (by simpa using h)) few fun s₂ ⟨h', tk, e, R, k⟩ => ?_
    subst e
    exact ⟨.ref s.heap.objs.size, _, I.laid (t' := tk) k (Nat.le_refl _) (setW_ok R), rfl, q _ (I.hok.fresh (Nat.le_refl _))⟩
end Jg
/-! a list or a tuple is walked -/
namespace Jg
open PySem PySem.Spec PyProof.Rows L2
/-- xs stands at a, as a list (true) or as a tuple -/
def SqE (K : PySem.W.Frag) (b : Bool) (H : Hp) (a : Addr) (xs : List V) : Prop := if b = true then SqL K H a xs else SqT K H a xs
def iEither (K : PySem.W.Frag) (te : TE) : TI := fun σ H R => te σ H fun x H1 => ∃ a b xs, x = .ref a ∧ SqE K b H1 a xs ∧ R (if b = true then Itl K a else Itt K a) H1
theorem pi_either {X : Cx} {tg e : Expr} {te : TE} (he : PE X e te) : PI X tg e (iEither X.K te) := by
  refine ⟨fun pins s σ H R I h => thn (he.run pins s σ H _ I h) fun v t ⟨x, G, J, rx, a, b, xs, e1, sq, q⟩ => ?_⟩
  subst e1
  cases rx
  have old : ∀ c o, t.heap.get? c = some o → (t.heap.push { cls := .type "list_iterator", data := .fields #[.ref a, .int 0 0] }).get? c = some o := fun c o z => Heap.get?_push_of_some _ z
  have fp : ∀ c, c ∈ [t.heap.objs.size] → FpOk X pins G c := fun c hc => by
    rw [List.mem_singleton.mp hc]
    exact J.fpOk (Nat.le_refl _) (J.hok.fresh (Nat.le_refl _))
  cases b with
  | true =>
    obtain ⟨us, rv, at_, _⟩ := J.list (show SqL X.K G a xs from sq)
    exact wpAny_pyIter_list at_.isList ⟨t.heap.objs.size, [t.heap.objs.size], _, _, G, rfl, J.kept (t' := t.toks) fun c o z => Heap.get?_push_of_some _ z, turn_list a _, ⟨_, Heap.get?_push_size _ rfl, rfl, rfl⟩, fp, q⟩
  | false =>
    obtain ⟨us, rv, at_, _⟩ := J.tuple (show SqT X.K G a xs from sq)
    exact wpAny_pyIter_tuple (show t.heap.IsTuple a us.toArray from at_) ⟨t.heap.objs.size, [t.heap.objs.size], _, _, G, rfl, J.kept (t' := t.toks) fun c o z => Heap.get?_push_of_some _ z, turn_tuple a _, ⟨_, Heap.get?_push_size _ rfl, rfl, rfl⟩, fp, q⟩
theorem lc_either {K : PySem.W.Frag} {b : Bool} {a : Addr} {xs : List V} {g : TG} {tt : TT} {te : TE} {vs : List Nat} {σ : L2.St} {H1 : Hp} {D : Addr} {Qd : Hp → Prop} (Pv : Nat → Hp → Prop) (h0 : Pv 0 (upd H1 D (.lst []))) (hl : ∀ i H, i ≤ xs.length → Pv i H → SqE K b H a xs)
    (hs : ∀ i x H, xs[i]? = some x → Pv i H → g x (wipe σ vs) H fun σ2 H2 => wipe σ2 vs = wipe σ vs ∧ tt σ2 H2 fun k H3 =>
      if k = true then te σ2 H3 fun y H4 => ∃ acc, H4 D = some (.lst acc) ∧ acc.length < sizeLine ∧ Pv (i + 1) (upd H4 D (.lst (acc ++ [y]))) else Pv (i + 1) H3) (hd : ∀ H, Pv xs.length H → Qd H) :
    ∃ W : Nat → Nat → Hp → Prop, (∃ m, W 0 m (upd H1 D (.lst []))) ∧ ∀ i m H, W i m H →
      ((if b = true then Itl K a else Itt K a).stop i H ∧ Qd H) ∨ ((if b = true then Itl K a else Itt K a).go i H ∧ ∃ Nx : Hp → Prop, (∀ H', Nx H' → ∃ m', m' < m ∧ W (i + 1) m' H') ∧ ∀ x H', (if b = true then Itl K a else Itt K a).yld i H x H' → g x (wipe σ vs) H' fun σ2 H2 => wipe σ2 vs = wipe σ vs ∧ tt σ2 H2 fun k H3 =>
        if k = true then te σ2 H3 fun y H4 => ∃ acc, H4 D = some (.lst acc) ∧ acc.length < sizeLine ∧ Nx (upd H4 D (.lst (acc ++ [y]))) else Nx H3) := by
  cases b with
  | true => exact lc_list (K := K) (a := a) (xs := xs) Pv h0 hl hs hd
  | false => exact lc_tup (K := K) (a := a) (xs := xs) Pv h0 hl hs hd
end Jg
/-! the one sorted list of some texts -/
namespace Jg
open PySem PySem.Spec PyProof.Rows
/-- x is behind y -/
def bef (x y : Str) : Bool := !ltCps y.cps.toList x.cps.toList
theorem bef_iff {x y : Str} : bef x y = true ↔ ¬ y.cps.toList < x.cps.toList := by
  unfold bef
  rw [ltCps_eq]
  simp
theorem bef_total (x y : Str) : bef x y = true ∨ bef y x = true := by
  rcases Decidable.em (y.cps.toList < x.cps.toList) with h | h
  · exact .inr (bef_iff.mpr fun q => List.lt_irrefl _ (List.lt_trans h q))
  · exact .inl (bef_iff.mpr h)
theorem bef_anti {x y : Str} (h1 : bef x y = true) (h2 : bef y x = true) : x = y := by
  have a := bef_iff.mp h1
  have b := bef_iff.mp h2
  have e : x.cps.toList = y.cps.toList := List.le_antisymm (List.not_lt.mp a) (List.not_lt.mp b)
  have c : x.cps = y.cps := Array.ext' e
  cases x; cases y; cases c; rfl
theorem bef_trans {x y z : Str} (h1 : bef x y = true) (h2 : bef y z = true) : bef x z = true := by
  have a := List.not_lt.mp (bef_iff.mp h1)
  have b := List.not_lt.mp (bef_iff.mp h2)
  exact bef_iff.mpr (List.not_lt.mpr (List.le_trans a b))
theorem rising_pw : ∀ (l : List Str) (p : Str), risingS p l = true → (p :: l).Pairwise fun x y => bef x y = true
  | [], p, _ => List.pairwise_singleton _ _
  | x :: r, p, h => by
    have h' : (bef p x && risingS x r) = true := h
    rw [Bool.and_eq_true] at h'
    have ih := rising_pw r x h'.2
    refine List.pairwise_cons.mpr ⟨fun y hy => ?_, ih⟩
    rcases List.mem_cons.mp hy with e | hy
    · rw [e]; exact h'.1
    · exact bef_trans h'.1 ((List.pairwise_cons.mp ih).1 y hy)
theorem sorted_pw {l : List Str} (h : sortedS l = true) : l.Pairwise fun x y => bef x y = true := by
  cases l with
  | nil => exact .nil
  | cons x r => exact rising_pw r x h
theorem pw_sorted {l : List Str} (h : l.Pairwise fun x y => bef x y = true) : sortedS l = true :=
  sortedS_of_pairwise l (h.imp fun {a b} q => by
    have q' : (!ltCps b.cps.toList a.cps.toList) = true := q
    simpa using q')
theorem pw_uniq : ∀ {l m : List Str}, l.Pairwise (fun x y => bef x y = true) → m.Pairwise (fun x y => bef x y = true) → l.Perm m → l = m
  | [], m, _, _, p => (List.nil_perm.mp p).symm
  | x :: r, [], _, _, p => absurd p (by simp)
  | x :: r, y :: t, h1, h2, p => by
    have e : x = y := by
      have hx : x ∈ y :: t := p.mem_iff.mp (List.mem_cons_self ..)
      have hy : y ∈ x :: r := p.mem_iff.mpr (List.mem_cons_self ..)
      rcases List.mem_cons.mp hx with e | hx
      · exact e
      · rcases List.mem_cons.mp hy with e | hy
        · exact e.symm
        · exact bef_anti ((List.pairwise_cons.mp h1).1 y hy) ((List.pairwise_cons.mp h2).1 x hx)
    subst e
    rw [pw_uniq (List.pairwise_cons.mp h1).2 (List.pairwise_cons.mp h2).2 (List.Perm.cons_inv p)]
def srtW (l : List Str) : List Str := l.mergeSort bef
theorem srtW_perm (l : List Str) : (srtW l).Perm l := List.mergeSort_perm l bef
theorem bef_total' (x y : Str) : (bef x y || bef y x) = true := by rw [Bool.or_eq_true]; exact bef_total x y
theorem srtW_sorted (l : List Str) : sortedS (srtW l) = true := by
  have h : (l.mergeSort bef).Pairwise fun x y => bef x y = true := by
    first
      | exact List.pairwise_mergeSort (le := bef) (fun _ _ _ h1 h2 => bef_trans h1 h2) bef_total' l
      | exact List.sorted_mergeSort (le := bef) (fun _ _ _ h1 h2 => bef_trans h1 h2) bef_total' l
  exact pw_sorted h
theorem srt_eq {l m : List Str} (s : sortedS l = true) (p : l.Perm m) : l = srtW m := pw_uniq (sorted_pw s) (sorted_pw (srtW_sorted m)) (p.trans (srtW_perm m).symm)
theorem srtW_congr {l m : List Str} (p : l.Perm m) : srtW l = srtW m := srt_eq (srtW_sorted l) ((srtW_perm l).trans p)
theorem srtW_len (l : List Str) : (srtW l).length = l.length := (srtW_perm l).length_eq
theorem srtW_mem {l : List Str} {x : Str} : x ∈ srtW l ↔ x ∈ l := (srtW_perm l).mem_iff
theorem srtW_nodup {l : List Str} : (srtW l).Nodup ↔ l.Nodup := (srtW_perm l).nodup_iff
end Jg
/-! a == b of two dicts whose values are data without dicts: both answers -/
namespace Jg
open PySem PySem.Spec PyProof.Rows L2
/-- small enough to be compared -/
def Sh40 (d : PyData) : Prop := d.canLay0 = true ∧ d.depth ≤ 40
/-- the data of a dict's values -/
def DvK (K : PySem.W.Frag) (H : Hp) (ks : List (Key × V)) (da : List (Key × PyData)) : Prop := Paired (fun p q => p.1 = q.1 ∧ Dp K H p.2 q.2 ∧ Sh40 q.2) ks da
def look : List (Key × PyData) → Key → Option PyData
  | [], _ => none
  | p :: r, k => if p.1 = k then some p.2 else look r k
def eqvD (da db : List (Key × PyData)) : Bool := da.length == db.length && da.all fun p => match look db p.1 with | none => false | some e => PyData.eqv p.2 e
section
variable {K : PySem.W.Frag} {H : Hp}
theorem dv_look {ks : List (Key × V)} {da : List (Key × PyData)} (h : DvK K H ks da) (k : Key) : (valV ks k = none ∧ look da k = none) ∨ ∃ v d, valV ks k = some v ∧ look da k = some d ∧ Dp K H v d ∧ Sh40 d := by
  unfold DvK at h
  induction h with
  | nil => exact .inl ⟨rfl, rfl⟩
  | @cons p q ps qs r _ ih =>
    obtain ⟨e, hd, sh⟩ := r
    by_cases c : p.1 = k
    · refine .inr ⟨p.2, q.2, valV_pos c, ?_, hd, sh⟩
      show (if q.1 = k then some q.2 else look qs k) = _
      rw [if_pos (e ▸ c)]
    · have l : look (q :: qs) k = look qs k := by
        show (if q.1 = k then some q.2 else look qs k) = _
        rw [if_neg (e ▸ c)]
      rw [valV_neg c, l]
      exact ih
end
section
variable {X : Cx} {pins : List (Addr × Obj)} {σ : L2.St} {H : Hp} {s : Shared} {A : Around}
theorem hits_data (I : Inv X pins σ H s) (hu : A.units + 40 < cLine) {ls : List (Key × V)} {vb : List (Key × Value)} {db : List (Key × PyData)} (rb : KV ls vb) (hb : DvK X.K H ls db) : ∀ {ks : List (Key × V)} {va : List (Key × Value)} {da : List (Key × PyData)}, KV ks va → DvK X.K H ks da →
    PySem.W.KeqHitsP X.prog X.w A s vb va (da.all fun p => match look db p.1 with | none => false | some e => PyData.eqv p.2 e) := by
  intro ks va da ra ha
  unfold KV at ra
  unfold DvK at ha
  induction ra generalizing da with
  | nil => cases ha; exact .nil
  | @cons p q ps qs h t ih =>
    cases ha with
    | @cons _ d _ ds hd td =>
    obtain ⟨e1, r1⟩ := h
    obtain ⟨e2, dp, sh⟩ := hd
    obtain ⟨qk, qv⟩ := q
    have ek : p.1 = qk := e1
    rw [List.all_cons]
    have rv := rb.val p.1
    rcases dv_look hb p.1 with ⟨n1, n2⟩ | ⟨v, d2, n1, n2, dp2, sh2⟩
    · rw [← e2, n2]
      rw [n1] at rv
      have z : valueAt vb qk = none := by
        rw [← ek]
        cases c : valueAt vb p.1 with
        | none => rfl
        | some y => rw [c] at rv; exact absurd rv (by intro q; cases q)
      exact .miss z
    · rw [← e2, n2]
      rw [n1] at rv
      obtain ⟨y, hy, ry⟩ := rv.some_of
      rw [ek] at hy
      obtain ⟨as, R1⟩ := Dp.reads I d.2 p.2 qv dp r1
      obtain ⟨bs, R2⟩ := Dp.reads I d2 v y dp2 ry
      have eq : SeqAt.EqAt A s qv y (PyData.eqv d.2 d2) := SeqAt.eqAt_reads d.2 d2 A s qv y as bs R1 R2 sh.1 sh2.1 (Nat.lt_of_le_of_lt (Nat.add_le_add_left (Nat.le_trans (Nat.min_le_left _ _) sh.2) _) hu)
      exact .hit hy eq.eqP (ih td)
end
def rEqDD (K : PySem.W.Frag) : R2 := fun x y H Q => ∃ a b ks ls da db, x = .ref a ∧ y = .ref b ∧ H a = some (.dK ks) ∧ H b = some (.dK ls) ∧ DvK K H ks da ∧ DvK K H ls db ∧ Q (.bl (eqvD da db)) H
theorem op_eqDD {X : Cx} (hu : X.A.units + 64 < cLine) : OpR X (compareOp .Eq) (rEqDD X.K) := by
  intro pins s σ H x y v u Q I rx ry h
  obtain ⟨a, b, ks, ls, da, db, rfl, rfl, ha, hb, dva, dvb, q⟩ := h
  cases (show v = Value.ref a from rx)
  cases (show u = Value.ref b from ry)
  obtain ⟨_, ya, va, ra, doa⟩ := (show ObjOk X.prog X.w H s.heap a (.dK ks) from I.hok a _ ha)
  obtain ⟨_, yb, vb, rb, dob⟩ := (show ObjOk X.prog X.w H s.heap b (.dK ls) from I.hok b _ hb)
  refine PySem.W.rcP_dicts (knd := mixKind X.prog X.w) ya yb doa dob (by omega) (fun _ => hits_data I (A := X.A.in1) (by show X.A.units + 1 + 40 < cLine; omega) rb dvb ra dva) _ _ ?_
  have l1 : va.length = da.length := by rw [← Paired.length ra, Paired.length dva]
  have l2 : vb.length = db.length := by rw [← Paired.length rb, Paired.length dvb]
  rw [l1, l2]
  exact ⟨.bl _, H, I, rfl, q⟩
end Jg
/-! lists of texts as data; in, == of them -/
namespace Jg
open PySem PySem.Spec PyProof.Rows L2
def okW (z : Str) : Prop := PyData.strOk z = true
theorem lay_strs : ∀ xs : List Str, (∀ z ∈ xs, okW z) → PyData.canLayAll0 (xs.map PyData.str) = true
  | [], _ => rfl
  | x :: xs, h => by
    show (PyData.canLay0 (.str x) && PyData.canLayAll0 (xs.map PyData.str)) = true
    rw [lay_strs xs fun z hz => h z (List.mem_cons_of_mem _ hz)]
    have e : PyData.canLay0 (.str x) = true := by
      have := h x (List.mem_cons_self ..)
      unfold okW at this
      simp [PyData.canLay0, this]
    rw [e]; rfl
theorem depth_strs : ∀ xs : List Str, PyData.depthAll (xs.map PyData.str) = 0
  | [] => rfl
  | x :: xs => by
    show max (PyData.depth (.str x)) (PyData.depthAll (xs.map PyData.str)) = 0
    rw [depth_strs xs]; rfl
theorem shaped_strs {xs : List Str} (h : ∀ z ∈ xs, okW z) : SeqAt.shaped (.list (xs.map PyData.str)) = true := by
  show (PyData.canLayAll0 (xs.map PyData.str) && decide (PyData.depthAll (xs.map PyData.str) + 1 ≤ 64)) = true
  rw [lay_strs xs h, depth_strs]; rfl
theorem eqv_str (x y : Str) : PyData.eqv (.str x) (.str y) = decide (x = y) := by
  by_cases c : x = y
  · subst c; simp [PyData.eqv]
  · simp [PyData.eqv, c]
theorem eqvAll_strs : ∀ xs ys : List Str, PyData.eqvAll (xs.map PyData.str) (ys.map PyData.str) = decide (xs = ys)
  | [], [] => rfl
  | [], y :: ys => rfl
  | x :: xs, [] => rfl
  | x :: xs, y :: ys => by
    have ih := eqvAll_strs xs ys
    show (PyData.eqv (.str x) (.str y) && PyData.eqvAll (xs.map PyData.str) (ys.map PyData.str)) = _
    rw [ih, eqv_str]
    by_cases c : x = y
    · subst c
      by_cases d : xs = ys
      · subst d; simp
      · simp [d]
    · simp [c]
theorem eqv_strs (xs ys : List Str) : PyData.eqv (.list (xs.map PyData.str)) (.list (ys.map PyData.str)) = decide (xs = ys) := by
  rw [PyData.eqv]; exact eqvAll_strs xs ys
theorem dpAll_strs {K : PySem.W.Frag} {H : Hp} : ∀ xs : List Str, DpAll K H (xs.map V.str) (xs.map PyData.str)
  | [] => .nil
  | x :: xs => .cons (.str x) (dpAll_strs xs)
theorem dp_strs {K : PySem.W.Frag} {H : Hp} {a : Addr} {xs : List Str} (h : SqL K H a (xs.map V.str)) : Dp K H (.ref a) (.list (xs.map PyData.str)) := .lst h (dpAll_strs xs)
theorem ask_eqS {K : PySem.W.Frag} {H : Hp} {a b : Addr} {xs ys : List Str} {Q : VK} (h1 : SqL K H a (xs.map V.str)) (h2 : SqL K H b (ys.map V.str)) (k1 : ∀ z ∈ xs, okW z) (k2 : ∀ z ∈ ys, okW z) (q : Q (.bl (decide (xs = ys))) H) : rEqD K (.ref a) (.ref b) H Q :=
  ⟨_, _, dp_strs h1, dp_strs h2, shaped_strs k1, shaped_strs k2, by rw [eqv_strs]; exact q⟩
theorem ask_neS {K : PySem.W.Frag} {H : Hp} {a b : Addr} {xs ys : List Str} {Q : VK} (h1 : SqL K H a (xs.map V.str)) (h2 : SqL K H b (ys.map V.str)) (k1 : ∀ z ∈ xs, okW z) (k2 : ∀ z ∈ ys, okW z) (q : Q (.bl (!decide (xs = ys))) H) : rNeD K (.ref a) (.ref b) H Q :=
  ⟨_, _, dp_strs h1, dp_strs h2, shaped_strs k1, shaped_strs k2, by rw [eqv_strs]; exact q⟩
/-- z in a list of texts -/
theorem inV_strs {m : Str} : ∀ {xs : List Str}, inV (.str m) (xs.map V.str) = decide (m ∈ xs)
  | [] => rfl
  | x :: xs => by
    have ih := inV_strs (m := m) (xs := xs)
    show (eqV (.str x) (.str m) || inV (.str m) (xs.map V.str)) = _
    rw [ih]
    have e : eqV (.str x) (.str m) = decide (x = m) := by
      by_cases c : x = m
      · subst c; simp [eqV]
      · simp [eqV, c]
    rw [e]
    by_cases c : x = m
    · subst c; simp
    · have c' : ¬ m = x := fun z => c z.symm
      simp [c, c']
theorem flat_strs : ∀ {xs : List Str}, (xs.map V.str).all flatV = true
  | [] => rfl
  | x :: xs => by
    show (flatV (.str x) && (xs.map V.str).all flatV) = true
    rw [flat_strs]; rfl
theorem ask_notInS {K : PySem.W.Frag} {H : Hp} {a : Addr} {xs : List Str} {m : Str} {Q : VK} (h : SqL K H a (xs.map V.str)) (q : Q (.bl (!decide (m ∈ xs))) H) : rIn K true (.str m) (.ref a) H Q :=
  ⟨a, _, rfl, .inl h, rfl, flat_strs, by
    show Q (.bl (!inV (.str m) (xs.map V.str))) H
    rw [inV_strs]; exact q⟩
/-- plain texts may be laid -/
theorem okW_ascii {z : Str} (h : PySem.Txt.isascii z = true) : okW z := by
  unfold PySem.Txt.isascii at h
  unfold okW PyData.strOk
  rw [← Array.all_toList, List.all_eq_true] at h ⊢
  intro c hc
  have := of_decide_eq_true (h c hc)
  exact decide_eq_true (by omega)
/-! one sorted list within another -/
theorem sub_sorted : ∀ {m l : List Str}, m.Pairwise (fun x y => bef x y = true) → l.Pairwise (fun x y => bef x y = true) → l.Nodup → (∀ x ∈ l, x ∈ m) → l.Sublist m
  | [], l, _, _, _, h => by
    cases l with
    | nil => exact .slnil
    | cons x r => exact absurd (h x (List.mem_cons_self ..)) (by simp)
  | y :: t, [], _, _, _, _ => List.nil_sublist _
  | y :: t, x :: r, hm, hl, nd, h => by
    obtain ⟨hm1, hm2⟩ := List.pairwise_cons.mp hm
    obtain ⟨hl1, hl2⟩ := List.pairwise_cons.mp hl
    obtain ⟨nx, nr⟩ := List.nodup_cons.mp nd
    by_cases e : x = y
    · subst e
      refine (sub_sorted hm2 hl2 nr fun z hz => ?_).cons_cons x
      rcases List.mem_cons.mp (h z (List.mem_cons_of_mem _ hz)) with e | k
      · rw [e] at hz; exact absurd hz nx
      · exact k
    · refine List.Sublist.cons y (sub_sorted hm2 hl nd fun z hz => ?_)
      rcases List.mem_cons.mp (h z hz) with e2 | k
      · -- z = y would stand ahead of x
        subst e2
        rcases List.mem_cons.mp hz with e3 | hz'
        · exact absurd e3.symm e
        · have hx : x ∈ t := (List.mem_cons.mp (h x (List.mem_cons_self ..))).resolve_left e
          exact absurd (bef_anti (hl1 z hz') (hm1 x hx)) e
      · exact k
theorem eq_sorted {l m : List Str} (hm : sortedS m = true) (hl : sortedS l = true) (nd : l.Nodup) (h : ∀ x ∈ l, x ∈ m) (len : l.length = m.length) : l = m :=
  (sub_sorted (sorted_pw hm) (sorted_pw hl) nd h).eq_of_length len
end Jg
/-! C(e, .., k = v, ..) that may raise, at the slots as they stand; methods without arguments -/
namespace Jg
open PySem PySem.Spec PyProof.Rows L2
structure MakN (P : Program) (w : World) (K : PySem.W.Frag) (mg : Str → Option Value) (base : Heap) (CX : CXT) (k : Nat) (x : Str) (C : Addr) (n : Nat) (ks : List Str) (gV : List V → List V → List V) (sp : Sp) : Prop where
  mg_ : mg x = some (.ref C)
  mks : PySem.W.makesIn K C = true
  kp : PySem.W.keepIn K (.ref C) = true
  ex : ∃ f fd ps g, FnOk P w K mg base CX k f fd ps sp ∧ PySem.W.findIn K (.ref C) "__init__" = some (some (.ref f)) ∧ PySem.W.isFn K (.ref f) = true ∧ KBn K fd ps (n + 1) ks g gV
def tMakeNS (C : Addr) (n m : Nat) (sp : Sp) (gV : List V → List V → List V) (E : L2.St → XK) (t tk : TA) : TE := fun σ H Q => t σ H fun vs H1 => tk σ H1 fun zs H2 => vs.length = n ∧ zs.length = m ∧ ∀ x dx, H2 x = none → H2 dx = none → dx ≠ x →
  sp (gV (.ref x :: vs) zs) (upd (upd H2 dx (.own x)) x (.ins C dx [])) (fun v H3 => v = .non ∧ Q (.ref x) H3) (E σ)
section
variable {X : Cx} {k j n : Nat} {C : Addr} {ks : List Str} {sp : Sp} {x : Str} {p pos : Pos} {kws : List Keyword} {e : Expr} {es : List Expr} {t ta : TA} {gV : List V → List V → List V} {W : WX}
theorem pe_mkNS (c : MakN X.prog X.w X.K X.mg X.base (L2.CX X.prog X.w) k x C n ks gV sp) (tk : Takes X W) (hr : Room j X.A) (hk : k + 1 ≤ j) (hg : Gl X x) (ha : PA X (e :: es) t) (hkw : PK X kws ta)
    (hall : (backToKw pos (keywordEach kws X.env)).all (·.1.isSome) = true := by rfl) (hks : (backToKw pos (keywordEach kws X.env)).filterMap (·.1) = ks := by rfl) (hdb : (x == ("__debug__" : Str)) = false := by decide)
    (he : starEach (e :: es) X.env = (false, eval e X.env) :: starEach es X.env := by rfl) (hpl : ((backTo pos (starEach (e :: es) X.env)).any (·.1) || (backToKw pos (keywordEach kws X.env)).any (·.1.isNone)) = false := by rfl) :
    PE X (.Call (.Name x p) (e :: es) kws pos) (tMakeNS C n ks.length sp gV (WE W) t ta) := by
  obtain ⟨f, fd, ps, g, F, ini, fn, b⟩ := c.ex
  refine ⟨fun pins s σ H Q I h => wpAny_Call_Name_kw (ld_glob I hg c.mg_ (PySem.W.callWith_KW (h₀ := X.base) I.ok.mod.kin c.kp hall (thn (ha.run pos pins s σ H _ I h) fun us s1 ⟨vs, H1, I1, r, q⟩ => ?_) hpl he) hdb)⟩
  refine thn (hkw.run pos pins s1 σ H1 _ I1 q) fun ws s2 ⟨zs, H2, J, rz, l1, l2, q⟩ => ⟨J.kIn, ?_⟩
  rw [hks]
  let m := s2.heap.objs.size
  have q1 := q (m + 1) m (J.hok.fresh (Nat.le_succ _)) (J.hok.fresh (Nat.le_refl _)) (Nat.ne_of_lt (Nat.lt_succ_self _))
  have J2 := Inv.made (C := C) J
  have r1 : Vals (V.ref (m + 1) :: vs) (Value.ref (m + 1) :: us) := .cons rfl r
  have n1 : (Value.ref (m + 1) :: us).length = n + 1 := by
    rw [List.length_cons, ← r.length, l1]
  have run := F.run _ X.stack _ _ ⟨Value.ref (m + 1) :: us, ks.zip ws⟩ _ _ _ (WE W σ) ((hr.mono hk).make C us (ks.zip ws)) (J2.env0.make C us (ks.zip ws)) (b.to _ (Value.ref (m + 1) :: us) ws J2.kIn n1 (rz.length.symm.trans l2)) (b.rel r1 rz) q1
  show wpAny (model X.prog X.w) X.A (call (.ref C) us (ks.zip ws)) (EP X pins σ Q) X.xe s2
  refine wpAny_call (make_map (f := f) J.kIn c.mks ini (beq_iff_eq.mp fn) (codeAny_mono run fun o s3 z => ?_))
  match o, z with
  | .error err, z => exact passAt tk σ pins _ _ err s3 J2 z
  | .ok (.ret u), z =>
    obtain ⟨v, H3, J3, rv, ev, q3⟩ := J2.after z
    subst ev
    exact ⟨rv, V.ref (m + 1), H3, J3, rfl, q3⟩
end
section
variable {P : Program} {w : World} {K : PySem.W.Frag} {mg : Str → Option Value} {base : Heap} {k : Nat} {C : Addr} {x qual : Str} {st : Stmt} {N ps ks : List Str} {kws : List (Str × V)} {sp : Sp}
theorem IniK.makN (D : IniK K C qual st kws) (m : mg x = some (.ref C)) (mk : PySem.W.makesIn K C = true) (kp : PySem.W.keepIn K (.ref C) = true) (S : FnScope N ps (defScope st)) (len : ∀ vs H Q E, sp vs H Q E → vs.length = ps.length) (n : Nat)
    (ms : List (Str × V)) (g : {α : Type} → List α → List α → List α → List α) (hk : kws ≠ []) (hms : ∀ q ∈ ms, q ∈ kws) (hrel : ∀ {vs mz zs : List V} {us mv ws : List Value}, Vals vs us → Vals mz mv → Vals zs ws → Vals (g vs mz zs) (g us mv ws))
    (hb : ∀ (D : Addr) (doc pm : Value) (an : Option Addr) (cdv ct : Value) (us mv ws : List Value), us.length = n + 1 → mv.length = ms.length → ws.length = ks.length →
      KwChain D ((ms.map (·.1)).zip mv) (bindArgs (PySem.W.fnOf "__init__" qual (defArgs st) (defBody st) (defScope st) .none (.ref D) doc pm an cdv ct) ⟨us, ks.zip ws⟩) (ps.zip (g us mv ws)))
    (body : ∀ f, BodyX P w K mg base N qual st f k sp) : MakN P w K mg base (L2.CX P w) (k + 1) x C n ks (fun vs zs => g vs (ms.map (·.2)) zs) sp :=
  let ⟨f, fd, F, a, i⟩ := D.ex
  let ⟨mv, b⟩ := F.kbinds0 (n + 1) ks ms g hk hms hrel hb
  ⟨m, mk, kp, f, fd, ps, _, F.ok S len (body f), a, i, b⟩
end
/-! ### o.m() -/
section
variable {X : Cx} {k j : Nat} {C : Addr} {x m : Str} {sp : Sp} {W : WX} {p pos apos : Pos} {o : Expr} {ta : TE}
theorem pe_mz {pl : Sem Bool} (c : Met X.prog X.w X.K X.mg X.base CX0 k C m sp) (cl : Cls X.K C) (hr : Room j X.A) (hk : k ≤ j) (he : PE X o ta)
    (ht : eval (.Call (.Attribute o m apos) [] [] pos) X.env = (do
      let ov ← eval o X.env
      standAt apos.atName
      let (f, first) ← holding [ov] (getMethod ov m pl)
      callWith pos f first (backTo pos (starEach [] X.env)) (backToKw pos (keywordEach [] X.env))) := by rfl) :
    PE X (.Call (.Attribute o m apos) [] [] pos) (tMeth C m sp [] E0 ta tNil) := by
  obtain ⟨f, fd, ps, F, a, i, kp, b⟩ := c.ex
  exact pe_meth0 (pl := pl) he cl ⟨a, i, kp⟩ F (hr.mono hk) b .nil pass0 ht
end
end Jg
/-! sum(a list of lists, a list) -/
namespace Jg
open PySem PySem.Spec PyProof.Rows L2
end Jg
/-! sorted(a list of data) -/
namespace Jg
open PySem PySem.Spec PyProof.Rows L2
/-! ### rows by their first text -/
end Jg
/-! isinstance(e, (A, B)) of a caught exception; a try in a loop -/
namespace Jg
open PySem PySem.Spec PyProof.Rows L2
/-- a try in a loop: its reading by a name -/
def tTry (tb : WX → TS) (w : Ends → WX) : TS := fun D σ H => tb (w D) D σ H
theorem ps_tryT {X : Cx} {Wout : WX} {body : List Stmt} {h₀ : ExceptHandler} {hds : List ExceptHandler} {w : Ends → WX} {pos : Pos} {tb : WX → TS} (hd : Hds X Wout (h₀ :: hds) w) (hs : X.stack = X.env :: X.outer) (fr : X.env.frame = some X.env.locals) (hN : X.N.Nodup) (tk : Takes X Wout)
    (hb : ∀ (W : WX) (pn : List (Addr × Obj)) (xe : Value → Shared → Prop), Takes (X.tr pn xe) W → PassesOwn (model X.prog X.w) X.A X.env xe → PSs (X.tr pn xe) body (tb W)) :
    PS X (.Try body (h₀ :: hds) [] [] pos) (tTry tb w) := ps_try hd hs fr hN tk hb
end Jg
/-! repr of a list among whose items are dicts of data -/
namespace Jg
open PySem PySem.Spec PyProof.Rows L2
/-- list(x) and tuple(x), named -/
def rListOf (K : PySem.W.Frag) : List V → Hp → VK → Prop := fun xs H Q => ∃ p ys, xs = [.ref p] ∧ (SqL K H p ys ∨ SqT K H p ys) ∧ ∀ l, H l = none → Q (.ref l) (upd H l (.lst ys))
theorem cr_listOf {X : Cx} : CallR X (.type "list") (rListOf X.K) := call_list_of
end Jg
/-! how long data is shown -/
namespace Jg
open PySem PySem.Spec PyProof.Rows L2
/-- d weighs at most n and is at most k deep -/
structure Sb (d : PyData) (n k : Nat) : Prop where
  sh : d.showable = true
  lv : d.leavesShort 100 = true
  bk : d.bulk ≤ n
  dp : d.depth ≤ k
structure SbAll (ds : List PyData) (n k : Nat) : Prop where
  sh : PyData.showableAll ds = true
  lv : PyData.leavesShortAll 100 ds = true
  bk : PyData.bulkAll ds ≤ n
  dp : PyData.depthAll ds ≤ k
theorem Sb.str {z : Str} {n : Nat} (h : z.length ≤ n) (c : ∀ x ∈ z.cps.toList, x < 16 ^ 8) : Sb (.str z) n 0 :=
  ⟨by simp [PyData.showable], by simpa only [PyData.leavesShort, List.all_eq_true, decide_eq_true_eq] using c, h, by simp [PyData.depth]⟩
theorem Sb.int {i : Int} (h : i.natAbs < 10 ^ 9) : Sb (.int i) 0 0 := by
  have z := int_text_length_le10 (k := 9) (by decide) h
  have e : (PyData.int i).shown.length ≤ 100 := by
    show (Str.ofString (toString i)).length ≤ 100
    rw [PySem.ofString_length]
    omega
  refine ⟨?_, by simpa only [PyData.leavesShort, decide_eq_true_eq] using e, Nat.le_refl _, by simp [PyData.depth]⟩
  have l : i.natAbs.log2 < 1920 := Nat.lt_of_lt_of_le (PySem.Flt.log2_lt_of (k := 64) (by decide) (Nat.lt_of_lt_of_le h (by decide +kernel))) (by decide)
  simp [PyData.showable, l]
theorem Sb.non : Sb .none 0 0 := ⟨rfl, rfl, Nat.le_refl _, by simp [PyData.depth]⟩
theorem Sb.bl (b : Bool) : Sb (.bool b) 0 0 := ⟨rfl, rfl, Nat.le_refl _, by simp [PyData.depth]⟩
theorem Sb.mono {d : PyData} {n m k l : Nat} (h : Sb d n k) (h1 : n ≤ m) (h2 : k ≤ l) : Sb d m l := ⟨h.sh, h.lv, Nat.le_trans h.bk h1, Nat.le_trans h.dp h2⟩
theorem SbAll.mono {ds : List PyData} {n m k l : Nat} (h : SbAll ds n k) (h1 : n ≤ m) (h2 : k ≤ l) : SbAll ds m l := ⟨h.sh, h.lv, Nat.le_trans h.bk h1, Nat.le_trans h.dp h2⟩
theorem SbAll.nil {n k : Nat} : SbAll [] n k := ⟨rfl, rfl, Nat.zero_le _, Nat.zero_le _⟩
theorem SbAll.cons {d : PyData} {ds : List PyData} {n m k : Nat} (h1 : Sb d n k) (h2 : SbAll ds m k) : SbAll (d :: ds) (n + 1 + m) k :=
  ⟨by simp only [PyData.showableAll, h1.sh, h2.sh, Bool.and_true], by simp only [PyData.leavesShortAll, h1.lv, h2.lv, Bool.and_true], by
    have a := h1.bk
    have b := h2.bk
    simp only [PyData.bulkAll]; omega, by
    have a := h1.dp
    have b := h2.dp
    simp only [PyData.depthAll]; omega⟩
theorem SbAll.of {n k : Nat} : ∀ {ds : List PyData}, (∀ d ∈ ds, Sb d n k) → SbAll ds (ds.length * (n + 1)) k
  | [], _ => .nil
  | d :: ds, h => (SbAll.cons (h d (List.mem_cons_self ..)) (SbAll.of fun x hx => h x (List.mem_cons_of_mem _ hx))).mono (by rw [List.length_cons, Nat.add_mul]; omega) (Nat.le_refl _)
theorem SbAll.list {ds : List PyData} {n k : Nat} (h : SbAll ds n k) : Sb (.list ds) n (k + 1) :=
  ⟨by simp only [PyData.showable, h.sh], by simp only [PyData.leavesShort, h.lv], h.bk, by
    have a := h.dp
    simp only [PyData.depth]; omega⟩
theorem SbAll.tuple {ds : List PyData} {n k : Nat} (h : SbAll ds n k) : Sb (.tuple ds) n (k + 1) :=
  ⟨by simp only [PyData.showable, h.sh], by simp only [PyData.leavesShort, h.lv], h.bk, by
    have a := h.dp
    simp only [PyData.depth]; omega⟩
theorem sb_kv {n m k : Nat} : ∀ {kvs : List (PyData × PyData)}, (∀ p ∈ kvs, Sb p.1 n k ∧ Sb p.2 m k) → PyData.showableKv kvs = true ∧ PyData.leavesShortKv 100 kvs = true ∧ PyData.bulkKv kvs ≤ kvs.length * (n + m + 2) ∧ PyData.depthKv kvs ≤ k
  | [], _ => ⟨rfl, rfl, Nat.zero_le _, Nat.zero_le _⟩
  | (a, b) :: r, h => by
    obtain ⟨i1, i2, i3, i4⟩ := sb_kv (kvs := r) fun p hp => h p (List.mem_cons_of_mem _ hp)
    obtain ⟨h1, h2⟩ : Sb a n k ∧ Sb b m k := h (a, b) (List.mem_cons_self ..)
    refine ⟨by simp only [PyData.showableKv, h1.sh, h2.sh, i1, Bool.and_true], by simp only [PyData.leavesShortKv, h1.lv, h2.lv, i2, Bool.and_true], ?_, ?_⟩
    · have x := h1.bk
      have y := h2.bk
      simp only [PyData.bulkKv]
      rw [List.length_cons, Nat.add_mul]; omega
    · have x := h1.dp
      have y := h2.dp
      simp only [PyData.depthKv]; omega
theorem Sb.dict {kvs : List (PyData × PyData)} {n m k : Nat} (h : ∀ p ∈ kvs, Sb p.1 n k ∧ Sb p.2 m k) : Sb (.dict kvs) (kvs.length * (n + m + 2)) (k + 1) := by
  obtain ⟨i1, i2, i3, i4⟩ := sb_kv h
  exact ⟨by simp only [PyData.showable, i1], by simp only [PyData.leavesShort, i2], i3, by simp only [PyData.depth]; omega⟩
theorem Sb.len {d : PyData} {n k : Nat} (h : Sb d n k) (z : n ≤ 160000) : d.shown.length ≤ sizeLine := by
  have e := PyData.shown_le_bulk 100 (by decide) d h.lv
  have b := h.bk
  rw [sizeLine_eq]; omega
/-- as repr asks for it -/
theorem Sb.ask {d : PyData} {n k : Nat} (h : Sb d n k) (z : n ≤ 160000) (hk : k ≤ 40) : d.showable = true ∧ d.depth ≤ 40 ∧ d.shown.length ≤ sizeLine := ⟨h.sh, Nat.le_trans h.dp hk, h.len z⟩
end Jg
/-! a dict whose one key is None -/
namespace Jg
open PySem PySem.Spec PyProof.Rows L2
section
variable {P : Program} {w : World} {K : PySem.W.Frag}
def NkP (P : Program) (w : World) (a : Addr) : Heap → Prop := fun h => (a == sysModules) = false ∧ ∃ u, h.DictOf (noneKind P w) a [(none, u)]
abbrev NkO (P : Program) (w : World) (a : Addr) : HO := .ext (NkP P w a)
theorem dict_ep2 {o : Obj} {es es' : Array DictEntry} {ep ep' : Nat} (h : o.data = .dict es ep) (h' : o.data = .dict es' ep') : es = es' ∧ ep = ep' := by
  rw [h] at h'
  injection h' with a b
  exact ⟨a, b⟩
variable {X : Cx} {pins : List (Addr × Obj)} {σ : L2.St} {H : Hp} {s : Shared} {d : Addr} {o : Obj}
theorem frzN (I : Inv X pins σ H s) (h : H d = some (.frz o (NkO X.prog X.w d))) :
    (d == sysModules) = false ∧ s.heap.get? d = some o ∧ o.ExactDict ∧ ∃ (es : Array DictEntry) (ep : Nat) (u : Value), o.data = .dict es ep ∧ es.size = 1 ∧ s.heap.DictAt (noneKind X.prog X.w) d [(none, u)] ep := by
  obtain ⟨hd, ⟨hs, u, o', es, ep, ho, hx, hdt, r⟩, _⟩ := I.hok d _ h
  rw [hd] at ho
  cases ho
  refine ⟨hs, hd, hx, es, ep, u, hdt, ?_, o, es, hd, hx, hdt, r⟩
  have l1 := r.2.1.length
  rw [Array.length_toList] at l1
  exact l1
def ItN (P : Program) (w : World) (d : Addr) (o : Obj) : It :=
  ⟨fun i H => H d = some (.frz o (NkO P w d)) ∧ i < 1, fun i H x H' => H' = H ∧ x = .non, fun i H => H d = some (.frz o (NkO P w d)) ∧ 1 ≤ i⟩
theorem walk_none : Walk (ItN P w d o) 1 (fun H => H d = some (.frz o (NkO P w d))) (fun i H x H' => H' = H ∧ x = .non) :=
  ⟨fun _ _ hi q => ⟨q, hi⟩, fun _ q => ⟨q, Nat.le_refl _⟩, fun _ _ _ _ _ _ y => y⟩
theorem turn_none {tg : Expr} {es : Array DictEntry} {ep : Nat} (it : Addr) (hod : o.data = .dict es ep) : Turn P w K tg (ItN P w d o) [it] it (fun i h => h.IsKeyIter it d i 1 ep) where
  mem := by simp
  obj := fun i h st b hb => by
    have e : b = it := by simpa using hb
    subst e
    obtain ⟨oi, e, c, dd⟩ := st
    exact ⟨oi, e, fun v z => by rw [dd] at z; cases z⟩
  keep := fun i h h' st k => st.at fun oi e => k it (by simp) oi e
  item := by
    intro X hP hw hK hc i pins s σ H E I hf st hg
    subst hP hw hK
    obtain ⟨hd, hi⟩ := hg
    obtain ⟨f0, f1, f2, f3, f4, f5⟩ := hf it (by simp)
    obtain ⟨hs, hgd, hx, es', ep', u, hdt, hsz, hm⟩ := frzN I hd
    obtain ⟨rfl, rfl⟩ := dict_ep2 hod hdt
    obtain rfl : i = 0 := by omega
    refine wpAny_pyNext_dict_item (kvs := [(none, u)]) (k := none) (v := u) st hm rfl fun key h' hkey st' sb => ?_
    have I1 : Inv X pins σ H { s with heap := h' } := I.turned (t' := s.toks) (fun b ob hb e => (sb.2 b hb).trans e) f0 f1 f3 f4 f5
    obtain ⟨oi, e, c, dd⟩ := id st'
    have ek := nk_none hkey
    subst ek
    exact ⟨.none, rfl, go_of (s := { s with heap := h' }) e c dd (by decide) ⟨.non, H, I1, rfl, ⟨rfl, rfl⟩, st', fun b hb => (hf b hb).1⟩⟩
  done := by
    intro X hP hw hK hc i pins s σ H E I hf st hg
    subst hP hw hK
    obtain ⟨hd, hi⟩ := hg
    obtain ⟨f0, f1, f2, f3, f4, f5⟩ := hf it (by simp)
    obtain ⟨hs, hgd, hx, es', ep', u, hdt, hsz, hm⟩ := frzN I hd
    obtain ⟨rfl, rfl⟩ := dict_ep2 hod hdt
    exact next_key_end (I.ok.hd hc) st hgd hdt hsz hi fun h' eb => ⟨rfl, I.turned (t' := s.toks) (fun b ob hb e => eb b ob hb e) f0 f1 f3 f4 f5⟩
  self := fun A i s Q E st h => wpAny_pyIter_keyiter st h
end
/-- for x in d: d as everywhere, or of the one key None -/
def iKeysE (P : Program) (w : World) (td : TE) : TI := fun σ H R => td σ H fun x H1 => ∃ d o, x = .ref d ∧ ((∃ kvs, H1 d = some (.frz o (.dK kvs)) ∧ R (Itk d o kvs) H1) ∨ (H1 d = some (.frz o (NkO P w d)) ∧ R (ItN P w d o) H1))
section
variable {X : Cx} {tg e : Expr} {td : TE} {pos : Pos}
theorem pi_keysE (he : PE X e td) : PI X tg e (iKeysE X.prog X.w td) := by
  refine ⟨fun pins s σ H R I h => ?_⟩
  refine thn (he.run pins s σ H _ I h) fun u s1 ⟨x, H1, I1, rx, d, o, ex, q⟩ => ?_
  subst ex
  obtain rfl : u = Value.ref d := rx
  rcases q with ⟨kvs, hd, q⟩ | ⟨hd, q⟩
  · obtain ⟨hs, hgd, hx, es, ep, vs, hdt, hsz, kv, hm⟩ := I1.frzK hd
    refine iter_keys hs hgd hx hdt (pi_one (tk := s1.toks) I1 _ (turn_keys _ hdt) ⟨_, Heap.get?_push_size _ rfl, rfl, ?_⟩ q)
    rw [hsz] <;> rfl
  · obtain ⟨hs, hgd, hx, es, ep, u, hdt, hsz, hm⟩ := frzN I1 hd
    refine iter_keys hs hgd hx hdt (pi_one (tk := s1.toks) I1 _ (turn_none _ hdt) ⟨_, Heap.get?_push_size _ rfl, rfl, ?_⟩ q)
    rw [hsz] <;> rfl
def rIsiE (P : Program) (w : World) (K : PySem.W.Frag) : List V → Hp → VK → Prop := fun xs H Q => rIsi K xs H Q ∨ ∃ a, xs = [.ref a, .ty "dict"] ∧ H a = some (NkO P w a) ∧ Q (.bl true) H
theorem call_isiE : CallR X (.builtin "isinstance") (rIsiE X.prog X.w X.K) := by
  intro pins s σ H xs us Q I r h
  rcases h with h | ⟨a, rfl, ha, q⟩
  · exact call_isi pins s σ H xs us Q I r h
  · obtain ⟨u1, u2, rfl, r1, r2⟩ := vals2 r
    cases (show u1 = Value.ref a from r1)
    cases (show u2 = Value.type "dict" from r2)
    obtain ⟨⟨hs, u, o, es, ep, ho, hx, _⟩, _⟩ := I.hok a _ ha
    exact PySem.W.kia_one PySem.W.kitx_dict I.kIn ⟨o, ho, hx.1⟩ (kit_ty (by decide +kernel)) (fun z => nomatch z) fun tk => ⟨.bl true, H, I.tok tk, rfl, q⟩
def rLenE (P : Program) (w : World) : List V → Hp → VK → Prop := fun xs H Q => (∃ a kvs, xs = [V.ref a] ∧ H a = some (.dK kvs) ∧ Q (.int kvs.length) H) ∨ ∃ a, xs = [.ref a] ∧ H a = some (NkO P w a) ∧ Q (.int 1) H
theorem call_lenE : CallR X (.builtin "len") (rLenE X.prog X.w) := by
  intro pins s σ H xs us Q I r h
  rcases h with h | ⟨a, rfl, ha, q⟩
  · exact call_lenD pins s σ H xs us Q I r h
  · obtain ⟨u, rfl, ru⟩ := vals1 r
    cases ru
    obtain ⟨⟨hs, u, dd⟩, _⟩ := I.hok a _ ha
    exact call_len_dict hs dd (by show ((1 : Nat) : Int) < 2 ^ 63; decide) ⟨.int 1, H, I.tok _, ⟨_, rfl⟩, q⟩
end
end Jg
/-! methods with keyword-only parameters, that may raise -/
namespace Jg
open PySem PySem.Spec PyProof.Rows L2
/-- a method with keyword-only parameters, as the top leaves it -/
structure MthK (K : PySem.W.Frag) (C : Addr) (m : Str) (qual : Str) (st : Stmt) (kws : List (Str × V)) : Prop where
  ex : ∃ f fd, FunD K m qual (defArgs st) (defBody st) (defScope st) [] kws f fd ∧ PySem.W.findIn K (.ref C) m = some (some (.ref f)) ∧ PySem.W.isFn K (.ref f) = true
theorem MthK.of {K : PySem.W.Frag} {C : Addr} {m qual : Str} {st : Stmt} {f : Addr} {oc : Value} {od an : Option Addr} {osl : Array (Option Value)} {kV doc pm cdv ct : Value} {kws : List (Str × V)}
    (a : PySem.W.findIn K (.ref C) m = some (some (.ref f))) (i : PySem.W.isFn K (.ref f) = true) (l : K.lookup f = some ⟨oc, od, .func (PySem.W.fnOf m qual (defArgs st) (defBody st) (defScope st) .none kV doc pm an cdv ct), osl⟩)
    (c : PySem.W.codeIn K cdv qual = true) (k : PySem.W.keepIn K (.ref f) = true) (kw : KwdV K kV kws) : MthK K C m qual st kws := ⟨f, _, ⟨⟨oc, od, .none, kV, doc, pm, an, cdv, ct, osl, rfl, l, c, .inl ⟨rfl, rfl⟩, kw⟩, k⟩, a, i⟩
structure MetW (P : Program) (w : World) (K : PySem.W.Frag) (mg : Str → Option Value) (base : Heap) (CX : CXT) (k : Nat) (C : Addr) (m : Str) (n : Nat) (ks : List Str) (gV : List V → List V → List V) (sp : Sp) : Prop where
  ex : ∃ f fd ps g, FnOk P w K mg base CX k f fd ps sp ∧ PySem.W.findIn K (.ref C) m = some (some (.ref f)) ∧ PySem.W.isFn K (.ref f) = true ∧ PySem.W.keepIn K (.ref f) = true ∧ KBn K fd ps n ks g gV
def tMethK (C : Addr) (m : Str) (n l : Nat) (sp : Sp) (gV : List V → List V → List V) (E : L2.St → XK) (ta : TE) (t tk : TA) : TE := fun σ H Q => ta σ H fun x H1 => ∃ a dx fs, x = .ref a ∧ H1 a = some (.ins C dx fs) ∧ fs.lookup m = none ∧
  t σ H1 fun vs H2 => tk σ H2 fun zs H3 => vs.length + 1 = n ∧ zs.length = l ∧ sp (gV (.ref a :: vs) zs) H3 Q (E σ)
section
variable {X : Cx} {k j n : Nat} {C : Addr} {x m : Str} {ks : List Str} {gV : List V → List V → List V} {sp : Sp} {W : WX} {p pos apos : Pos} {e o : Expr} {es : List Expr} {kws : List Keyword} {ta : TE} {t tk : TA}
/-- o.m(e, .., k = v, ..) -/
theorem pe_mKS {pl : Sem Bool} (c : MetW X.prog X.w X.K X.mg X.base (L2.CX X.prog X.w) k C m n ks gV sp) (cl : Cls X.K C) (tak : Takes X W) (hr : Room j X.A) (hk : k ≤ j) (he : PE X o ta) (ha : PA X (e :: es) t) (hkw : PK X kws tk)
    (hall : (backToKw pos (keywordEach kws X.env)).all (·.1.isSome) = true := by rfl) (hks : (backToKw pos (keywordEach kws X.env)).filterMap (·.1) = ks := by rfl)
    (hst : starEach (e :: es) X.env = (false, eval e X.env) :: starEach es X.env := by rfl) (hpl : ((backTo pos (starEach (e :: es) X.env)).any (·.1) || (backToKw pos (keywordEach kws X.env)).any (·.1.isNone)) = false := by rfl)
    (ht : eval (.Call (.Attribute o m apos) (e :: es) kws pos) X.env = (do
      let ov ← eval o X.env
      standAt apos.atName
      let (f, first) ← holding [ov] (getMethod ov m pl)
      callWith pos f first (backTo pos (starEach (e :: es) X.env)) (backToKw pos (keywordEach kws X.env))) := by rfl) :
    PE X (.Call (.Attribute o m apos) (e :: es) kws pos) (tMethK C m n ks.length sp gV (WE W) ta t tk) := by
  obtain ⟨f, fd, ps, g, F, at_, i, kp, b⟩ := c.ex
  refine ⟨fun pins s σ H Q I h => PySem.W.methodCall_KW (pl := pl) (thn (he.run pins s σ H _ I h) fun u s1 ⟨x, H1, I1, rx, a, dx, fs, ex, ea, l, q⟩ => ?_) ht⟩
  subst ex
  obtain rfl : u = Value.ref a := rx
  refine getmeth_ok I1 ea cl ⟨at_, i, kp⟩ l (PySem.W.callWith_KW (first := [.ref a]) (h₀ := X.base) I.ok.mod.kin kp hall (thn (ha.run pos pins s1 σ H1 _ I1 q) fun us s2 ⟨vs, H2, I2, r, q2⟩ => ?_) hpl hst)
  refine thn (hkw.run pos pins s2 σ H2 _ I2 q2) fun ws s3 ⟨zs, H3, I3, rz, l1, l2, q3⟩ => ⟨I3.kIn, ?_⟩
  rw [hks]
  have r1 : Vals (.ref a :: vs) (.ref a :: us) := .cons rfl r
  have r2 := b.rel r1 rz
  have n1 : (Value.ref a :: us).length = n := by rw [List.length_cons, ← r.length]; exact l1
  have n2 : ws.length = ks.length := rz.length.symm.trans l2
  show wpAny _ _ (call (.ref f) (Value.ref a :: us) (ks.zip ws)) _ _ _
  refine wpAny_call (codeAny_mono (F.run X.A X.stack s3 H3 ⟨.ref a :: us, ks.zip ws⟩ _ _ Q (WE W σ) (hr.mono hk) I3.env0 (b.to s3 _ ws I3.kIn n1 n2) r2 q3) fun r s' hq => ?_)
  match r, hq with
  | .error err, z => exact passAt tak σ pins _ _ err s' I3 z
  | .ok (.ret u), z => exact I3.after z
end
section
variable {P : Program} {w : World} {K : PySem.W.Frag} {mg : Str → Option Value} {base : Heap} {k : Nat} {C : Addr} {m qual : Str} {st : Stmt} {N ps ks : List Str} {kws : List (Str × V)} {sp : Sp}
theorem MthK.met (D : MthK K C m qual st kws) (S : FnScope N ps (defScope st)) (len : ∀ vs H Q E, sp vs H Q E → vs.length = ps.length) (n : Nat)
    (ms : List (Str × V)) (g : {α : Type} → List α → List α → List α → List α) (hk : kws ≠ []) (hms : ∀ q ∈ ms, q ∈ kws) (hrel : ∀ {vs mz zs : List V} {us mv ws : List Value}, Vals vs us → Vals mz mv → Vals zs ws → Vals (g vs mz zs) (g us mv ws))
    (hb : ∀ (D : Addr) (doc pm : Value) (an : Option Addr) (cdv ct : Value) (us mv ws : List Value), us.length = n → mv.length = ms.length → ws.length = ks.length →
      KwChain D ((ms.map (·.1)).zip mv) (bindArgs (PySem.W.fnOf m qual (defArgs st) (defBody st) (defScope st) .none (.ref D) doc pm an cdv ct) ⟨us, ks.zip ws⟩) (ps.zip (g us mv ws)))
    (body : ∀ f, BodyX P w K mg base N qual st f k sp) : MetW P w K mg base (L2.CX P w) (k + 1) C m n ks (fun vs zs => g vs (ms.map (·.2)) zs) sp :=
  let ⟨f, fd, F, a, i⟩ := D.ex
  let ⟨mv, b⟩ := F.kbinds0 n ks ms g hk hms hrel hb
  ⟨f, fd, ps, _, F.ok S len (body f), a, i, F.kp, b⟩
end
end Jg
/-! the repr of lists of lower-case texts tells the texts -/
namespace Jg
open PySem PySem.Spec PyProof.Rows L2
def tlS (z : Str) : List Nat := z.cps.toList
theorem tlS_app (a b : Str) : tlS (a ++ b) = tlS a ++ tlS b := by unfold tlS; rw [Str.cps_append, Array.toList_append]
/-- prefix-unique: two of these shown, with something behind, are the same -/
def Cut (D : PyData → Prop) : Prop := ∀ d d' x y, D d → D d' → tlS d.shown ++ x = tlS d'.shown ++ y → d = d' ∧ x = y
theorem tl_join (ds : List PyData) : ∀ d, tlS (Str.join ", " (PyData.shownAll (d :: ds))) = tlS d.shown ++ (ds.flatMap fun e => 44 :: 32 :: tlS e.shown) := by
  induction ds with
  | nil => intro d; rw [PyData.shownAll_cons, PyData.shownAll_nil]; show tlS d.shown = _; simp
  | cons e r ih =>
    intro d
    rw [PyData.shownAll_cons, PyData.shownAll_cons]
    show tlS (d.shown ++ ", " ++ Str.join ", " (e.shown :: PyData.shownAll r)) = _
    rw [tlS_app, tlS_app, ← PyData.shownAll_cons, ih e, List.flatMap_cons]
    show tlS d.shown ++ [44, 32] ++ _ = _
    simp
theorem rest_cut {D : PyData → Prop} (c : Cut D) {b : Nat} (hb : b ≠ 44) : ∀ {ds es : List PyData} {x y : List Nat}, (∀ d ∈ ds, D d) → (∀ d ∈ es, D d) → (ds.flatMap fun e => 44 :: 32 :: tlS e.shown) ++ b :: x = (es.flatMap fun e => 44 :: 32 :: tlS e.shown) ++ b :: y → ds = es ∧ x = y
  | [], [], _, _, _, _, e => ⟨rfl, by injection e⟩
  | [], d :: es, _, _, _, _, e => by
    rw [List.flatMap_cons] at e
    injection e with e1 _
    exact absurd e1 hb
  | d :: ds, [], _, _, _, _, e => by
    rw [List.flatMap_cons] at e
    injection e with e1 _
    exact absurd e1.symm hb
  | d :: ds, d' :: es, x, y, h, h', e => by
    simp only [List.flatMap_cons, List.cons_append, List.append_assoc, List.cons.injEq, true_and] at e
    obtain ⟨a, e2⟩ := c d d' _ _ (h d List.mem_cons_self) (h' d' List.mem_cons_self) e
    obtain ⟨a2, b2⟩ := rest_cut c hb (fun q hq => h q (List.mem_cons_of_mem _ hq)) (fun q hq => h' q (List.mem_cons_of_mem _ hq)) e2
    exact ⟨by rw [a, a2], b2⟩
/-- what stands behind the head of a list: its end, or the rest -/
theorem seq_cut {D : PyData → Prop} (c : Cut D) (ne : ∀ d, D d → ∃ h t, tlS d.shown = h :: t ∧ h ≠ 93 ∧ h ≠ 41) {b : Nat} (hb : b = 93 ∨ b = 41) {ds es : List PyData} {x y : List Nat} (h : ∀ d ∈ ds, D d) (h' : ∀ d ∈ es, D d)
    (e : tlS (Str.join ", " (PyData.shownAll ds)) ++ b :: x = tlS (Str.join ", " (PyData.shownAll es)) ++ b :: y) : ds = es ∧ x = y := by
  have b44 : b ≠ 44 := by omega
  match ds, es with
  | [], [] =>
    rw [PyData.shownAll_nil] at e
    exact ⟨rfl, (List.cons.inj e).2⟩
  | [], d :: r =>
    rw [tl_join] at e
    obtain ⟨p, t, ep, n1, n2⟩ := ne d (h' d List.mem_cons_self)
    rw [ep] at e
    have z := (List.cons.inj e).1
    omega
  | d :: r, [] =>
    rw [tl_join] at e
    obtain ⟨p, t, ep, n1, n2⟩ := ne d (h d List.mem_cons_self)
    rw [ep] at e
    have z := (List.cons.inj e).1
    omega
  | d :: r, d' :: r' =>
    rw [tl_join, tl_join, List.append_assoc, List.append_assoc] at e
    obtain ⟨a, e2⟩ := c d d' _ _ (h d List.mem_cons_self) (h' d' List.mem_cons_self) e
    obtain ⟨a2, b2⟩ := rest_cut c b44 (fun q hq => h q (List.mem_cons_of_mem _ hq)) (fun q hq => h' q (List.mem_cons_of_mem _ hq)) e2
    exact ⟨by rw [a, a2], b2⟩
theorem tl_list (ds : List PyData) : tlS (PyData.list ds).shown = 91 :: (tlS (Str.join ", " (PyData.shownAll ds)) ++ [93]) := by
  rw [PyData.shown_list, tlS_app, tlS_app]
  show [91] ++ _ ++ [93] = _
  simp
/-- a list of such is such -/
theorem Cut.list {D : PyData → Prop} (c : Cut D) (ne : ∀ d, D d → ∃ h t, tlS d.shown = h :: t ∧ h ≠ 93 ∧ h ≠ 41) : Cut (fun d => ∃ ds, d = PyData.list ds ∧ ∀ x ∈ ds, D x) := by
  rintro _ _ x y ⟨ds, rfl, h⟩ ⟨es, rfl, h'⟩ e
  rw [tl_list, tl_list, List.cons_append, List.cons_append, List.append_assoc, List.append_assoc] at e
  obtain ⟨a, b⟩ := seq_cut c ne (.inl rfl) h h' (List.cons.inj e).2
  exact ⟨by rw [a], b⟩
end Jg
/-! methods with keyword-only parameters, called without positional ones -/
namespace Jg
open PySem PySem.Spec PyProof.Rows L2
end Jg
namespace K54C
open PySem PySem.Spec PyProof.Rows L2 Jg
local macro_rules | `(tactic| walk_at "rd1") => `(tactic| (first
  | refine ⟨_, rfl, ?_⟩
  | refine ⟨_, _, rfl, rfl, ?_⟩
  | refine ⟨_, _, rfl, ?_⟩
  | refine ⟨rfl, ?_⟩
  | (refine ⟨show (0 : Int) < _ by omega, ?_⟩)
  | (refine ⟨Or.inl ⟨by omega, by omega⟩, ?_⟩)
  | (refine ⟨Or.inr ⟨by omega, by omega⟩, ?_⟩)
  | (refine ⟨(⟨by decide, by decide, by decide⟩ : CPow _ _), ?_⟩)
  | refine Or.inl ⟨_, rfl, ?_⟩
  | refine Or.inr ⟨_, rfl, ?_⟩
  | fail "rd"))
local macro_rules | `(tactic| walk_at "rd") => `(tactic| repeat' walk_at "rd1")
def top (i : Nat) : Stmt := PySem.Challenge.pw_gaplesskeys_k54_wrong_taking_back.main.body.getD i (.Pass ⟨0, 0, 0, 0⟩)
structure Txt (K : PySem.W.Frag) (mg : Str → Option Value) : Prop where
  b_isinstance : mg "isinstance" = none
  b_int : mg "int" = none
  b_bool : mg "bool" = none
  b_str : mg "str" = none
  b_list : mg "list" = none
  b_tuple : mg "tuple" = none
  b_dict : mg "dict" = none
  b_len : mg "len" = none
  b_all : mg "all" = none
  b_any : mg "any" = none
  b_set : mg "set" = none
  b_sorted : mg "sorted" = none
  b_max : mg "max" = none
  b_min : mg "min" = none
  b_range : mg "range" = none
  b_repr : mg "repr" = none
  b_sum : mg "sum" = none
  g_MOST_ROLES : ∃ u, mg "_MOST_ROLES" = some u ∧ L2.RelV (.int 3) u
  g_MOST_ACCEPTED : ∃ u, mg "_MOST_ACCEPTED" = some u ∧ L2.RelV (.int 8) u
  g_MOST_VOUCHERS : ∃ u, mg "_MOST_VOUCHERS" = some u ∧ L2.RelV (.int 4) u
  g_MOST_NEEDED : ∃ u, mg "_MOST_NEEDED" = some u ∧ L2.RelV (.int 4) u
abbrev kit (K : PySem.W.Frag) (t : Value) (n : String) (b : Bool) : Prop := PySem.W.kitOne K t (.type n) = some b
theorem kii {K : PySem.W.Frag} : kit K (.type "int") "int" true := kit_ty (by decide +kernel)
theorem kib {K : PySem.W.Frag} : kit K (.type "int") "bool" false := kit_ty (by decide +kernel)
def wordB (z : Str) : Bool := decide (z.length ≤ 8) && (PySem.Txt.isascii z && (PySem.Txt.isalpha z && PySem.Txt.islower z))
def spIsInt (K : PySem.W.Frag) : Sp := fun vs H Q _ => ∃ x t b1 b2, vs = [x] ∧ TyX K H x t ∧ kit K t "int" b1 ∧ (b1 = true → kit K t "bool" b2) ∧ Q (.bl (b1 && !b2)) H
def spWord (K : PySem.W.Frag) : Sp := fun vs H Q _ => ∃ y, vs = [y] ∧ ((∃ z, y = .str z ∧ z.length ≤ sizeLine ∧ Q (.bl (wordB z)) H) ∨ (∃ t, TyX K H y t ∧ kit K t "str" false ∧ Q (.bl false) H))
/-! ### keys -/
def flagV (x : V) : Bool := match x with | .str z => wordB z | _ => false
def txV (x : V) : Str := match x with | .str z => z | _ => Str.empty
/-- what may stand in a list that is asked for keys -/
def ItOk (K : PySem.W.Frag) (H : Hp) (x : V) : Prop := (∃ z, x = .str z ∧ z.length ≤ sizeLine) ∨ (∃ t, (∀ H', Same H H' → TyX K H' x t) ∧ kit K t "str" false ∧ ∀ z, x ≠ .str z)
theorem ItOk.keep {K : PySem.W.Frag} {H H' : Hp} {x : V} (h : ItOk K H x) (s : Same H H') : ItOk K H' x := h.elim .inl fun ⟨t, ty, k⟩ => .inr ⟨t, fun H2 s2 => ty H2 (s.trans s2), k⟩
theorem yes_if {σ : L2.St} {H : Hp} {A B : Hp → Prop} (h : A H) : tYes σ H (fun b H3 => if b = true then A H3 else B H3) := by
  show (if true = true then A H else B H)
  rw [if_pos rfl]
  exact h
theorem same_new {H : Hp} {p : Addr} {o : HO} (h : H p = none) : Same H (upd H p o) := fun b u e => by rw [upd_ne (ne_of_none e h)]; exact e
theorem same_new' {H H1 : Hp} {p : Addr} {o : HO} (s : Same H H1) (h : H1 p = none) : Same H (upd H1 p o) := s.trans (same_new h)
theorem same_tup {K : PySem.W.Frag} {H H' : Hp} {a : Addr} {xs : List V} (e : Same H H') (h : SqT K H a xs) : SqT K H' a xs := by
  rcases h with (h | ⟨o, h⟩) | h
  · exact .inl (.inl (e _ _ h))
  · exact .inl (.inr ⟨o, e _ _ h⟩)
  · exact .inr h
theorem SqE.keep {K : PySem.W.Frag} {b : Bool} {H H' : Hp} {a : Addr} {xs : List V} (h : SqE K b H a xs) (s : Same H H') : SqE K b H' a xs := by
  cases b with
  | true => exact s.seq h
  | false => exact same_tup s h
theorem kAny_seq {K : PySem.W.Frag} (b : Bool) : PySem.W.kitAny K (.type (if b then "list" else "tuple")) [.type "list", .type "tuple"] = some true := by
  cases b with
  | true =>
    show (match PySem.W.kitOne K (.type "list") (.type "list") with | some true => some true | some false => PySem.W.kitAny K (.type "list") [.type "tuple"] | none => none) = _
    rw [show PySem.W.kitOne K (.type "list") (.type "list") = some true from kit_ty (by decide +kernel)]
  | false =>
    show (match PySem.W.kitOne K (.type "tuple") (.type "list") with | some true => some true | some false => PySem.W.kitAny K (.type "tuple") [.type "tuple"] | none => none) = _
    rw [show PySem.W.kitOne K (.type "tuple") (.type "list") = some false from kit_ty (by decide +kernel)]
    show (match PySem.W.kitOne K (.type "tuple") (.type "tuple") with | some true => some true | some false => some false | none => none) = _
    rw [show PySem.W.kitOne K (.type "tuple") (.type "tuple") = some true from kit_ty (by decide +kernel)]
theorem kAny_no {K : PySem.W.Frag} {t : Value} (k1 : kit K t "list" false) (k2 : kit K t "tuple" false) : PySem.W.kitAny K t [.type "list", .type "tuple"] = some false := by
  show (match PySem.W.kitOne K t (.type "list") with | some true => some true | some false => PySem.W.kitAny K t [.type "tuple"] | none => none) = _
  rw [show PySem.W.kitOne K t (.type "list") = some false from k1]
  show (match PySem.W.kitOne K t (.type "tuple") with | some true => some true | some false => some false | none => none) = _
  rw [show PySem.W.kitOne K t (.type "tuple") = some false from k2]
def keysB (xs : List V) (most : Int) : Bool := !decide (most < (xs.length : Int)) && (xs.all flagV && decide ((onceW (xs.map txV)).length = xs.length))
def spKeys (K : PySem.W.Frag) : Sp := fun vs H Q _ => ∃ y most, vs = [y, .int most] ∧
  ((∃ a b xs, y = .ref a ∧ SqE K b H a xs ∧ (∀ H', Same H H' → TyX K H' y (.type (if b then "list" else "tuple"))) ∧ xs.length ≤ 500 ∧ (∀ x ∈ xs, ItOk K H x) ∧ ∀ H', Same H H' → Q (.bl (keysB xs most)) H') ∨ (∃ t, (∀ H', Same H H' → TyX K H' y t) ∧ kit K t "list" false ∧ kit K t "tuple" false ∧ ∀ H', Same H H' → Q (.bl false) H'))
def spOrder (K : PySem.W.Frag) : Sp := fun vs H Q _ => ∃ a b ks, vs = [.ref a] ∧ SqE K b H a (ks.map V.str) ∧ ks.length ≤ 60 ∧ ∀ (ys : List Str) p H', ys.Perm (onceW ks) → sortedS ys = true → H p = none → Same H H' → H' p = some (.lst (ys.map V.str)) → Q (.ref p) H'
section
variable {P : Program} {w : World} {K : PySem.W.Frag} {mg : Str → Option Value} {base : Heap}
abbrev s_is_integer : Stmt := top 15
theorem sc_is_integer : FnScope ["value"] ["value"] (defScope s_is_integer) := ⟨rfl, rfl, rfl, by decide +kernel, rfl, by decide +kernel, by decide +kernel⟩
theorem ok_is_integer (D : DefK K mg "is_integer" s_is_integer) (T : Txt K mg) : Cal P w K mg base CX0 1 "is_integer" (spIsInt K) := by
  refine D.cal sc_is_integer (fun _ _ _ _ _ _ us hl => match us, hl with | [_], _ => rfl) (fun vs H Q E h => ?_) fun f cdv A outer s H vs Q E hr h => ?_
  · obtain ⟨x, t, b1, b2, rfl, _⟩ := h; rfl
  · obtain ⟨x, t, b1, b2, rfl, ty, k1, k2, q⟩ := h
    refine ⟨_, (pss_one (ps_ret (pe_and (pe_callB call_isi (by rfl) T.b_isinstance (by decide +kernel) (pa_cons (pv 0) (pa_cons (pe_ty (n := "int") (by rfl) T.b_int (by decide +kernel)) pa_nil))) (pe_one (pe_not (pe_callB call_isi (by rfl) T.b_isinstance (by decide +kernel) (pa_cons (pv 0) (pa_cons (pe_ty (n := "bool") (by rfl) T.b_bool (by decide +kernel)) pa_nil)))))))), ?_⟩
    refine ⟨_, rfl, x, .ty "int", t, _, b1, rfl, .ty "int", ty, k1, b1, rfl, ?_⟩
    cases b1 with
    | false => exact iteF q
    | true => exact iteT ⟨_, rfl, x, .ty "bool", t, _, b2, rfl, .ty "bool", ty, k2 rfl, b2, rfl, q⟩
abbrev s_is_word : Stmt := top 21
theorem sc_is_word : FnScope ["value"] ["value"] (defScope s_is_word) := ⟨rfl, rfl, rfl, by decide +kernel, rfl, by decide +kernel, by decide +kernel⟩
theorem ok_is_word (D : DefK K mg "is_word" s_is_word) (T : Txt K mg) : Cal P w K mg base CX0 1 "is_word" (spWord K) := by
  refine D.cal sc_is_word (fun _ _ _ _ _ _ us hl => match us, hl with | [_], _ => rfl) (fun vs H Q E h => ?_) fun f cdv A outer s H vs Q E hr h => ?_
  · obtain ⟨y, rfl, _⟩ := h; rfl
  · obtain ⟨y, rfl, h⟩ := h
    refine ⟨_, (pss_cons (ps_if (PW.pt (pw_or (pt_not (pt_val (pe_callB call_isi (by rfl) T.b_isinstance (by decide +kernel) (pa_cons (pv 0) (pa_cons (pe_ty (n := "str") (by rfl) T.b_str (by decide +kernel)) pa_nil))))) (pw_or1 (pt_cmpR op_gt (pe_callB call_len_str (by rfl) T.b_len (by decide +kernel) (pa_cons (pv 0) pa_nil)) pe_int (nomark _))))) (pss_one (ps_ret pe_bl)) pss_nil)
      (pss_one (ps_ret (pe_and (pe_m0 F.slot_str_isascii F.type_str_isascii mt_isascii (pv 0)) (pe_and (pe_m0 F.slot_str_isalpha F.type_str_isalpha mt_isalpha (pv 0)) (pe_one (pe_m0 F.slot_str_islower F.type_str_islower mt_islower (pv 0)))))))), ?_⟩
    rcases h with ⟨z, rfl, hz, q⟩ | ⟨t, ty, k, q⟩
    · refine ⟨_, rfl, .str z, .ty "str", _, _, true, rfl, .ty "str", .base (.str z), kit_ty (by decide +kernel), _, rfl, iteF ?_⟩
      refine ⟨_, rfl, z, rfl, hz, _, _, rfl, rfl, _, rfl, ?_⟩
      unfold wordB at q
      by_cases c : z.length ≤ 8
      · refine iteFe (decide_eq_false (by omega)) ?_
        rw [decide_eq_true c] at q
        refine ⟨_, rfl, ⟨_, rfl⟩, z, rfl, rfl, trivial, _, rfl, ?_⟩
        cases h1 : PySem.Txt.isascii z with
        | false => rw [h1] at q; exact iteF q
        | true =>
          rw [h1] at q
          refine iteT ⟨_, rfl, ⟨_, rfl⟩, z, rfl, rfl, trivial, _, rfl, ?_⟩
          cases h2 : PySem.Txt.isalpha z with
          | false => rw [h2] at q; exact iteF q
          | true =>
            rw [h2] at q
            exact iteT ⟨_, rfl, ⟨_, rfl⟩, z, rfl, rfl, trivial, q⟩
      · refine iteTe (decide_eq_true (by omega)) ?_
        rw [decide_eq_false c] at q
        exact q
    · exact ⟨_, rfl, y, .ty "str", t, _, false, rfl, .ty "str", ty, k, _, rfl, iteT q⟩
abbrev s_in_order : Stmt := top 32
theorem sc_in_order : FnScope ["words"] ["words"] (defScope s_in_order) := ⟨rfl, rfl, rfl, by decide +kernel, rfl, by decide +kernel, by decide +kernel⟩
theorem ok_order (D : DefK K mg "_in_order" s_in_order) (T : Txt K mg) : Cal P w K mg base CX0 1 "_in_order" (spOrder K) := by
  refine D.cal sc_in_order (fun _ _ _ _ _ _ us hl => match us, hl with | [_], _ => rfl) (fun vs H Q E h => ?_) fun f cdv A outer s H vs Q E hr h => ?_
  · obtain ⟨a, b, ks, rfl, _⟩ := h; rfl
  · obtain ⟨a, b, ks, rfl, sq, few, k⟩ := h
    refine ⟨_, (pss_one (ps_ret (pe_callB (cr_sortW rfl) (by rfl) T.b_sorted (by decide +kernel) (pa_cons (pe_callTy (cr_setW2 rfl) (by rfl) T.b_set (by decide +kernel) (pa_cons (pv 0) pa_nil)) pa_nil)))), ?_⟩
    have big : (1000 : Nat) < scanBound := by decide
    have ln := onceW_len ks
    refine ⟨_, rfl, a, ks, rfl, ?_, by omega, fun p np => ⟨p, onceW ks, rfl, upd_same, by omega, fun ys q pm so nq => ?_⟩⟩
    · cases b with
      | true => exact .inl sq
      | false => exact .inr sq
    · have s1 := same_new (o := SetWO P w p (onceW ks)) np
      exact k ys q _ pm so (s1.free nq) (same_new' s1 nq) upd_same
abbrev s_are_different_keys : Stmt := top 22
theorem sc_are_different_keys : FnScope ["value", "most", "key"] ["value", "most"] (defScope s_are_different_keys) := ⟨rfl, rfl, rfl, by decide +kernel, rfl, by decide +kernel, by decide +kernel⟩
theorem ok_keys (D : DefK K mg "are_different_keys" s_are_different_keys) (T : Txt K mg) (G_is_word : Cal P w K mg base CX0 1 "is_word" (spWord K)) : Cal P w K mg base CX0 2 "are_different_keys" (spKeys K) := by
  refine D.cal sc_are_different_keys (fun _ _ _ _ _ _ us hl => match us, hl with | [_, _], _ => rfl) (fun vs H Q E h => ?_) fun f cdv A outer s H vs Q E hr h => ?_
  · obtain ⟨y, most, rfl, _⟩ := h; rfl
  · obtain ⟨y, most, rfl, h⟩ := h
    refine ⟨_, (pss_cons (ps_if (PW.pt (pw_or (pt_not (pt_val (pe_callB call_isiT (by rfl) T.b_isinstance (by decide +kernel) (pa_cons (pv 0) (pa_cons (pe_tup (pa_cons (pe_ty (n := "list") (by rfl) T.b_list (by decide +kernel)) (pa_cons (pe_ty (n := "tuple") (by rfl) T.b_tuple (by decide +kernel)) pa_nil))) pa_nil))))) (pw_or1 (pt_cmpR op_gt (pe_callB call_len (by rfl) T.b_len (by decide +kernel) (pa_cons (pv 0) pa_nil)) (pv 1) (nomark _))))) (pss_one (ps_ret pe_bl)) pss_nil)
      (pss_one (ps_ret (pe_and (pe_callB (cr_all rfl) (by rfl) T.b_all (by decide +kernel) (pa_cons (pe_lc (own := [("key", 2)]) (g := gName 2) (by rfl) sc_are_different_keys.nd (pi_either (pv 0)) (blkOk_by (own := [("key", 2)]) (N := ["value", "most", "key"]) (sc := defScope s_are_different_keys) (by decide +kernel)) (fun _ _ _ _ _ => pg_name (i := 2) sc_are_different_keys.nd rfl (Or.inl rfl)) (fun _ _ _ _ _ => pts_nil) (fun _ _ _ _ _ => (pe_c G_is_word hr (by decide) rfl (pa_cons (pv 2) pa_nil)))) pa_nil)) (pe_one (pe_cmpR op_eq (pe_callB call_lenW (by rfl) T.b_len (by decide +kernel) (pa_cons (pe_callTy (cr_setW2 rfl) (by rfl) T.b_set (by decide +kernel) (pa_cons (pv 0) pa_nil)) pa_nil)) (pe_callB call_len (by rfl) T.b_len (by decide +kernel) (pa_cons (pv 0) pa_nil)) (nomark _))))))), ?_⟩
    rcases h with ⟨a, b, xs, rfl, sq, ty, few, its, k⟩ | ⟨t, ty, k1, k2, k⟩
    · refine ⟨_, rfl, by show 2 ≤ sizeLine; decide, fun tp ntp => ?_⟩
      have s1 := same_new (o := .tup [.ty "list", .ty "tuple"]) ntp
      have sq1 : SqE K b _ a xs := SqE.keep (b := b) sq s1
      refine ⟨.ref a, tp, [.ty "list", .ty "tuple"], _, [.type "list", .type "tuple"], true, rfl, upd_same, .cons (.ty _) (.cons (.ty _) .nil), ty _ s1, kAny_seq b, true, rfl, iteF ?_⟩
      generalize upd H tp (.tup [.ty "list", .ty "tuple"]) = H1 at *
      have lv : LenV K (.ref a) H1 xs.length := by
        cases b with
        | true => exact .inl ⟨xs, sq1, rfl⟩
        | false => exact .inr ⟨xs, sq1, rfl⟩
      refine ⟨_, rfl, .ref a, _, rfl, lv, _, rfl, _, _, rfl, rfl, _, rfl, ?_⟩
      unfold keysB at k
      by_cases c : most < (xs.length : Int)
      · rw [decide_eq_true c] at k ⊢
        exact iteT (k _ s1)
      · rw [decide_eq_false c] at k ⊢
        refine iteF ⟨_, rfl, a, b, xs, rfl, sq1, fun D nD => lc_either (K := K) (b := b) (a := a) (xs := xs) (fun i H' => Same H1 H' ∧ H' D = some (.lst ((xs.take i).map fun x => V.bl (flagV x)))) ⟨same_new nD, upd_same⟩ (fun _ H' _ z => SqE.keep (b := b) sq1 z.1) ?_ ?_⟩
        · intro i x H' hx ⟨s2, eD⟩
          have tk : xs.take (i + 1) = xs.take i ++ [x] := by rw [List.take_succ, hx]; rfl
          have nDH : H D = none := s1.free nD
          have up : Same H1 (upd H' D (.lst (((xs.take i).map fun x => V.bl (flagV x)) ++ [V.bl (flagV x)]))) := fun c o e => by rw [upd_ne (ne_of_none e nD)]; exact s2 c o e
          have eq : upd H' D (.lst (((xs.take i).map fun x => V.bl (flagV x)) ++ [V.bl (flagV x)])) D = some (.lst ((xs.take (i + 1)).map fun x => V.bl (flagV x))) := by rw [upd_same, tk, List.map_append]; rfl
          have sz : ((xs.take i).map fun x => V.bl (flagV x)).length < sizeLine := by
            rw [List.length_map, List.length_take, sizeLine_eq]; omega
          refine ⟨rfl, yes_if ⟨_, rfl, x, rfl, ?_⟩⟩
          rcases (its x (List.mem_of_getElem? hx)).keep (s1.trans s2) with ⟨z, rfl, hz⟩ | ⟨t, ty2, k2, nz⟩
          · exact .inl ⟨z, rfl, hz, _, eD, sz, up, eq⟩
          · have fl : flagV x = false := by
              cases x with
              | str z => exact absurd rfl (nz z)
              | _ => rfl
            rw [fl] at up eq
            exact .inr ⟨t, ty2 _ (Same.refl _), k2, _, eD, sz, up, eq⟩
        · rintro H' ⟨s2, eD⟩
          rw [List.take_length] at eD
          have mm : (xs.map flagV).map V.bl = xs.map fun x => V.bl (flagV x) := by rw [List.map_map]; rfl
          refine ⟨D, xs.map flagV, rfl, SqL.of (by rw [mm]; exact eD), _, rfl, ?_⟩
          have al : (xs.map flagV).all id = xs.all flagV := by rw [List.all_map]; rfl
          rw [al]
          cases c2 : xs.all flagV with
          | false =>
            rw [c2] at k
            exact iteF (k _ (s1.trans s2))
          | true =>
            rw [c2] at k
            have ex : (xs.map txV).map V.str = xs := by
              rw [List.map_map]
              refine (List.map_congr_left fun x hx => ?_).trans (List.map_id xs)
              have fx := List.all_eq_true.mp c2 x hx
              cases x with
              | str z => rfl
              | _ => cases fx
            have sq2 : SqE K b H' a ((xs.map txV).map V.str) := by rw [ex]; exact SqE.keep (b := b) sq1 s2
            have big : (1000 : Nat) < scanBound := by decide
            refine iteT ⟨_, rfl, a, xs.map txV, rfl, ?_, by rw [List.length_map]; omega, fun p np => ⟨p, _, rfl, upd_same, _, rfl, .ref a, xs.length, rfl, ?_, rfl, ?_⟩⟩
            · cases b with
              | true => exact .inl sq2
              | false => exact .inr sq2
            · have sq3 : SqE K b (upd H' p (SetWO P w p (onceW (xs.map txV)))) a xs := SqE.keep (b := b) (SqE.keep (b := b) sq1 s2) (same_new np)
              cases b with
              | true => exact .inl ⟨xs, sq3, rfl⟩
              | false => exact .inr ⟨xs, sq3, rfl⟩
            · have q := k _ ((s1.trans s2).trans (same_new (o := SetWO P w p (onceW (xs.map txV))) np))
              have e : decide (V.int ((onceW (xs.map txV)).length : Int) = V.int (xs.length : Int)) = decide ((onceW (xs.map txV)).length = xs.length) := by
                rw [Bool.eq_iff_iff, decide_eq_true_iff, decide_eq_true_iff]
                exact ⟨fun h => by have := V.int.inj h; omega, fun h => by rw [h]⟩
              show Q (.bl (decide (V.int ((onceW (xs.map txV)).length : Int) = V.int (xs.length : Int)))) _
              rw [e]
              exact q
    · refine ⟨_, rfl, by show 2 ≤ sizeLine; decide, fun tp ntp => ?_⟩
      have s1 := same_new (o := .tup [.ty "list", .ty "tuple"]) ntp
      exact ⟨y, tp, [.ty "list", .ty "tuple"], t, [.type "list", .type "tuple"], false, rfl, upd_same, .cons (.ty _) (.cons (.ty _) .nil), ty _ s1, kAny_no k1 k2, false, rfl, iteT (k _ s1)⟩
end
end K54C
namespace K54C
open PySem PySem.Spec PyProof.Rows L2 Jg
local macro_rules | `(tactic| walk_at "rd1") => `(tactic| (first
  | refine ⟨_, rfl, ?_⟩
  | refine ⟨_, _, rfl, rfl, ?_⟩
  | refine ⟨_, _, rfl, ?_⟩
  | refine ⟨rfl, ?_⟩
  | (refine ⟨show (0 : Int) < _ by omega, ?_⟩)
  | (refine ⟨Or.inl ⟨by omega, by omega⟩, ?_⟩)
  | (refine ⟨Or.inr ⟨by omega, by omega⟩, ?_⟩)
  | (refine ⟨(⟨by decide, by decide, by decide⟩ : CPow _ _), ?_⟩)
  | refine Or.inl ⟨_, rfl, ?_⟩
  | refine Or.inr ⟨_, rfl, ?_⟩
  | fail "rd"))
local macro_rules | `(tactic| walk_at "rd") => `(tactic| repeat' walk_at "rd1")
/-! ### the use of a role -/
/-- y is asked for keys: fl is the answer, now and later -/
def KeysIs (K : PySem.W.Frag) (H : Hp) (y : V) (most : Int) (fl : Bool) : Prop := ∀ (H' : Hp) (Q : VK), Same H H' → (∀ H2, Same H' H2 → Q (.bl fl) H2) → spKeys K [y, .int most] H' Q E0
def WordIs (K : PySem.W.Frag) (H : Hp) (y : V) (fl : Bool) : Prop := (∃ z, y = .str z ∧ z.length ≤ sizeLine ∧ fl = wordB z) ∨ (fl = false ∧ ∃ t, (∀ H', Same H H' → TyX K H' y t) ∧ kit K t "str" false)
theorem WordIs.keep {K : PySem.W.Frag} {H H' : Hp} {y : V} {fl : Bool} (h : WordIs K H y fl) (s : Same H H') : WordIs K H' y fl := h.elim .inl fun ⟨e, t, ty, k⟩ => .inr ⟨e, t, fun H2 s2 => ty H2 (s.trans s2), k⟩
theorem KeysIs.keep {K : PySem.W.Frag} {H H' : Hp} {y : V} {m : Int} {fl : Bool} (h : KeysIs K H y m fl) (s : Same H H') : KeysIs K H' y m fl := fun H2 Q s2 q => h H2 Q (s.trans s2) q
@[irreducible] def spKeysI (K : PySem.W.Frag) : Sp := spKeys K
theorem KeysIs.i {K : PySem.W.Frag} {H : Hp} {y : V} {m : Int} {fl : Bool} (h : KeysIs K H y m fl) (H' : Hp) (Q : VK) (s : Same H H') (q : ∀ H2, Same H' H2 → Q (.bl fl) H2) : spKeysI K [y, .int m] H' Q E0 := by
  unfold spKeysI
  exact h H' Q s q
def spUse (K : PySem.W.Frag) : Sp := fun vs H Q _ => ∃ y, vs = [y] ∧
  ((∃ t, TyX K H y t ∧ kit K t "tuple" false ∧ Q (.bl false) H) ∨
   (∃ tp xs, y = .ref tp ∧ H tp = some (.tup xs) ∧ xs.length ≠ 2 ∧ Q (.bl false) H) ∨
   (∃ tp a u fa fu, y = .ref tp ∧ H tp = some (.tup [a, u]) ∧ KeysIs K H a 8 fa ∧ WordIs K H u fu ∧ ∀ H', Same H H' → Q (.bl (fa && fu)) H'))
section
variable {P : Program} {w : World} {K : PySem.W.Frag} {mg : Str → Option Value} {base : Heap}
abbrev s_is_use : Stmt := top 29
theorem sc_is_use : FnScope ["value", "accepted", "used"] ["value"] (defScope s_is_use) := ⟨rfl, rfl, rfl, by decide +kernel, rfl, by decide +kernel, by decide +kernel⟩
theorem ok_use_ (D : DefK K mg "_is_use" s_is_use) (T : Txt K mg) (G_is_word : Cal P w K mg base CX0 1 "is_word" (spWord K)) (G_are_different_keys : Cal P w K mg base CX0 2 "are_different_keys" (spKeysI K)) : Cal P w K mg base CX0 3 "_is_use" (spUse K) := by
  refine D.cal sc_is_use (fun _ _ _ _ _ _ us hl => match us, hl with | [_], _ => rfl) (fun vs H Q E h => ?_) fun f cdv A outer s H vs Q E hr h => ?_
  · obtain ⟨y, rfl, _⟩ := h; rfl
  · obtain ⟨y, rfl, h⟩ := h
    refine ⟨_, (pss_cons (ps_if (PW.pt (pw_or (pt_not (pt_val (pe_callB call_isi (by rfl) T.b_isinstance (by decide +kernel) (pa_cons (pv 0) (pa_cons (pe_ty (n := "tuple") (by rfl) T.b_tuple (by decide +kernel)) pa_nil))))) (pw_or1 (pt_cmpR op_ne (pe_callB call_len_seq (by rfl) T.b_len (by decide +kernel) (pa_cons (pv 0) pa_nil)) pe_int (nomark _))))) (pss_one (ps_ret pe_bl)) pss_nil)
      (pss_cons (ps_asg (pv 0) (pg_tup rfl (pgs_cons (pg_name (i := 1) sc_is_use.nd rfl (Or.inl rfl)) (pgs_cons (pg_name (i := 2) sc_is_use.nd rfl (Or.inl rfl)) pgs_nil))))
      (pss_one (ps_ret (pe_and (pe_c G_are_different_keys hr (by decide) rfl (pa_cons (pv 1) (pa_cons (pe_gc rfl T.g_MOST_ACCEPTED) pa_nil))) (pe_one (pe_c G_is_word hr (by decide) rfl (pa_cons (pv 2) pa_nil)))))))), ?_⟩
    rcases h with ⟨t, ty, kt, q⟩ | ⟨tp, xs, rfl, et, n2, q⟩ | ⟨tp, a, u, fa, fu, rfl, et, ka, wu, k⟩
    · exact ⟨_, rfl, y, .ty "tuple", t, _, false, rfl, .ty "tuple", ty, kt, false, rfl, iteT q⟩
    · refine ⟨_, rfl, .ref tp, .ty "tuple", _, _, true, rfl, .ty "tuple", .base (.tup et), kit_ty (by decide +kernel), true, rfl, iteF ?_⟩
      refine ⟨_, rfl, tp, _, rfl, .inr (SqT.of et), rfl, _, rfl, iteTe (show (!decide (V.int (xs.length : Int) = V.int 2)) = true by rw [decide_eq_false fun z => n2 (by injection z with z; omega)]; rfl) q⟩
    · refine ⟨_, rfl, .ref tp, .ty "tuple", _, _, true, rfl, .ty "tuple", .base (.tup et), kit_ty (by decide +kernel), true, rfl, iteF ?_⟩
      refine ⟨_, rfl, tp, _, rfl, .inr (SqT.of et), rfl, _, rfl, iteF ?_⟩
      refine ⟨_, rfl, tp, _, rfl, SqT.of et, rfl, _, _, rfl, _, _, rfl, rfl, ?_⟩
      refine ⟨_, rfl, ka.i H _ (.refl _) fun H' s1 => ⟨_, rfl, ?_⟩⟩
      have q := k H' s1
      cases fa with
      | false => exact iteF q
      | true =>
        refine iteT ⟨_, rfl, u, rfl, ?_⟩
        rcases wu.keep s1 with ⟨z, rfl, hz, e⟩ | ⟨e, t, ty, kt⟩
        · rw [e] at q; exact .inl ⟨z, rfl, hz, q⟩
        · rw [e] at q; exact .inr ⟨t, ty _ (.refl _), kt, q⟩
theorem ok_use (D : DefK K mg "_is_use" s_is_use) (T : Txt K mg) (G_is_word : Cal P w K mg base CX0 1 "is_word" (spWord K)) (G_are_different_keys : Cal P w K mg base CX0 2 "are_different_keys" (spKeys K)) : Cal P w K mg base CX0 3 "_is_use" (spUse K) :=
  ok_use_ D T G_is_word (by unfold spKeysI; exact G_are_different_keys)
end
end K54C
namespace K54C
open PySem PySem.Spec PyProof.Rows L2 Jg
local macro_rules | `(tactic| walk_at "rd1") => `(tactic| (first
  | refine ⟨_, rfl, ?_⟩
  | refine ⟨_, _, rfl, rfl, ?_⟩
  | refine ⟨_, _, rfl, ?_⟩
  | refine ⟨rfl, ?_⟩
  | (refine ⟨show (0 : Int) < _ by omega, ?_⟩)
  | (refine ⟨Or.inl ⟨by omega, by omega⟩, ?_⟩)
  | (refine ⟨Or.inr ⟨by omega, by omega⟩, ?_⟩)
  | (refine ⟨(⟨by decide, by decide, by decide⟩ : CPow _ _), ?_⟩)
  | refine Or.inl ⟨_, rfl, ?_⟩
  | refine Or.inr ⟨_, rfl, ?_⟩
  | fail "rd"))
local macro_rules | `(tactic| walk_at "rd") => `(tactic| repeat' walk_at "rd1")
theorem lc_w {J : It} {n : Nat} {G : Hp → Prop} {Y : Nat → Hp → V → Hp → Prop} (W : Walk J n G Y) {g : TG} {tt : TT} {te : TE} {vs : List Nat} {σ : L2.St} {H1 : Hp} {D : Addr} {Qd : Hp → Prop} (Pv : Nat → Hp → Prop) (h0 : Pv 0 (upd H1 D (.lst []))) (hG : ∀ i H, Pv i H → G H)
    (hs : ∀ i H x H', i < n → Pv i H → Y i H x H' → g x (wipe σ vs) H' fun σ2 H2 => wipe σ2 vs = wipe σ vs ∧ tt σ2 H2 fun b H3 =>
      if b = true then te σ2 H3 fun y H4 => ∃ acc, H4 D = some (.lst acc) ∧ acc.length < sizeLine ∧ Pv (i + 1) (upd H4 D (.lst (acc ++ [y]))) else Pv (i + 1) H3) (hd : ∀ H, Pv n H → Qd H) : LcAsk J g tt te vs σ H1 D Qd := by
  refine ⟨fun i m H => m = n - i ∧ i ≤ n ∧ Pv i H, ⟨_, rfl, Nat.zero_le _, h0⟩, ?_⟩
  rintro i m H ⟨rfl, hi, p⟩
  rcases Nat.lt_or_ge i n with lt | ge
  · exact .inr ⟨W.goes i H lt (hG i H p), Pv (i + 1), (fun H' p' => ⟨_, by omega, rfl, lt, p'⟩), fun x H' y => hs i H x H' lt p (W.yields i H x H' lt (hG i H p) y)⟩
  · have e : i = n := by omega
    subst e
    exact .inl ⟨W.stops H (hG i H p), hd H p⟩
/-- all stays, but what stands at d -/
def SameB (d : Addr) (H H' : Hp) : Prop := ∀ q o, H q = some o → q ≠ d → H' q = some o
/-- a role and its use -/
structure Row where
  z : Str
  t : Addr
  a : Addr
  b : Bool
  ks : List Str
  u : Str
structure RowOk (K : PySem.W.Frag) (d : Addr) (H : Hp) (r : Row) : Prop where
  at_ : H r.t = some (.tup [.ref r.a, .str r.u])
  nt : r.t ≠ d
  na : r.a ≠ d
  sq : SqE K r.b H r.a (r.ks.map V.str)
  ty : ∀ H', SameB d H H' → TyX K H' (.ref r.a) (.type (if r.b then "list" else "tuple"))
  few : r.ks.length ≤ 500
  sh : ∀ k ∈ r.ks, k.length ≤ sizeLine
  zu : r.z.length ≤ sizeLine ∧ r.u.length ≤ sizeLine
def rowB (r : Row) : Bool := wordB r.z && (keysB (r.ks.map V.str) 8 && wordB r.u)
def dictOf (rows : List Row) : List (Key × V) := rows.map fun r => (Sum.inr r.z, V.ref r.t)
theorem val_row : ∀ (rows : List Row) (r : Row), (rows.map (·.z)).Nodup → r ∈ rows → valV (dictOf rows) (Sum.inr r.z) = some (.ref r.t) := by
  intro rows
  induction rows with
  | nil => intro r _ h; cases h
  | cons p rest ih =>
    intro r nd hr
    rw [List.map_cons, List.nodup_cons] at nd
    show valV ((Sum.inr p.z, V.ref p.t) :: dictOf rest) (Sum.inr r.z) = _
    rcases List.mem_cons.mp hr with e | h
    · rw [e]; exact valV_pos (p := (Sum.inr p.z, V.ref p.t)) rfl
    · have ne : ¬ ((Sum.inr p.z, V.ref p.t) : Key × V).1 = Sum.inr r.z := fun q => nd.1 (List.mem_map.mpr ⟨r, h, (Sum.inr.inj q).symm⟩)
      rw [valV_neg ne]
      exact ih r nd.2 h
theorem SqE.lock {K : PySem.W.Frag} {b : Bool} {d a : Addr} {H H' : Hp} {xs : List V} (h : SqE K b H a xs) (s : SameB d H H') (n : a ≠ d) : SqE K b H' a xs := by
  cases b with
  | true =>
    rcases (show SqL K H a xs from h) with (h | ⟨o, h⟩) | h
    · exact .inl (.inl (s _ _ h n))
    · exact .inl (.inr ⟨o, s _ _ h n⟩)
    · exact .inr h
  | false =>
    rcases (show SqT K H a xs from h) with (h | ⟨o, h⟩) | h
    · exact .inl (.inl (s _ _ h n))
    · exact .inl (.inr ⟨o, s _ _ h n⟩)
    · exact .inr h
def UseB (K : PySem.W.Frag) (d : Addr) (H : Hp) (y : V) (fl : Bool) : Prop := ∀ (H' : Hp) (Q : VK), SameB d H H' → (∀ H2, Same H' H2 → Q (.bl fl) H2) → spUse K [y] H' Q E0
@[irreducible] def spUseI (K : PySem.W.Frag) : Sp := spUse K
theorem UseB.i {K : PySem.W.Frag} {d : Addr} {H : Hp} {y : V} {fl : Bool} (h : UseB K d H y fl) (H' : Hp) (Q : VK) (s : SameB d H H') (q : ∀ H2, Same H' H2 → Q (.bl fl) H2) : spUseI K [y] H' Q E0 := by
  unfold spUseI
  exact h H' Q s q
/-- an entry of a dict that is asked for roles, and the answer about it -/
def EntB (K : PySem.W.Frag) (d : Addr) (H : Hp) (e : Key × V) (fl : Bool) : Prop := (∃ z, e.1 = .inr z ∧ z.length ≤ sizeLine ∧ ((wordB z = false ∧ fl = false) ∨ (wordB z = true ∧ UseB K d H e.2 fl))) ∨ (∃ i, e.1 = .inl i ∧ fl = false)
theorem EntB.keep {K : PySem.W.Frag} {d : Addr} {H H' : Hp} {e : Key × V} {fl : Bool} (h : EntB K d H e fl) (s : SameB d H H') : EntB K d H' e fl := by
  rcases h with ⟨z, a, b, c | ⟨c, u⟩⟩ | h
  · exact .inl ⟨z, a, b, .inl c⟩
  · exact .inl ⟨z, a, b, .inr ⟨c, fun H2 Q s2 q => u H2 Q (fun b o e n => s2 b o (s b o e n) n) q⟩⟩
  · exact .inr h
theorem val_mem {kvs : List (Key × V)} {k : Key} {v : V} (nd : (kvs.map (·.1)).Nodup) (h : (k, v) ∈ kvs) : valV kvs k = some v := by
  induction kvs with
  | nil => cases h
  | cons p rest ih =>
    rw [List.map_cons, List.nodup_cons] at nd
    rcases List.mem_cons.mp h with e | h
    · rw [← e]; exact valV_pos (p := (k, v)) rfl
    · have ne : ¬ p.1 = k := fun q => nd.1 (List.mem_map.mpr ⟨(k, v), h, q.symm⟩)
      rw [valV_neg ne]
      exact ih nd.2 h
theorem ent_len {K : PySem.W.Frag} {d : Addr} {H : Hp} : ∀ {kvs : List (Key × V)} {fs : List Bool}, Paired (EntB K d H) kvs fs → kvs.length = fs.length
  | _, _, .nil => rfl
  | _, _, .cons _ r => by rw [List.length_cons, List.length_cons, ent_len r]
theorem ent_get {K : PySem.W.Frag} {d : Addr} {H : Hp} : ∀ {kvs : List (Key × V)} {fs : List Bool} {i : Nat} {e : Key × V}, Paired (EntB K d H) kvs fs → kvs[i]? = some e → ∃ f, fs[i]? = some f ∧ EntB K d H e f
  | _, _, i, _, .nil, h => by simp at h
  | _, _, 0, _, .cons a _, h => by
    have h' := Option.some.inj h
    subst h'
    exact ⟨_, rfl, a⟩
  | _, _, i + 1, _, .cons _ r, h => let ⟨f, a, b⟩ := ent_get (i := i) r (by simpa using h); ⟨f, by simpa using a, b⟩
def spRoles (P : Program) (w : World) (K : PySem.W.Frag) : Sp := fun vs H Q _ => ∃ y, vs = [y] ∧
  ((∃ t, TyX K H y t ∧ kit K t "dict" false ∧ Q (.bl false) H) ∨
   (∃ d kvs, y = .ref d ∧ H d = some (.dK kvs) ∧ (kvs.length < 1 ∨ 3 < kvs.length) ∧ Q (.bl false) H) ∨
   (∃ d kvs, ∃ fs : List Bool, y = .ref d ∧ H d = some (.dK kvs) ∧ 1 ≤ kvs.length ∧ kvs.length ≤ 3 ∧ (kvs.map (·.1)).Nodup ∧ Paired (EntB K d H) kvs fs ∧ ∀ H', Same H H' → Q (.bl (fs.all id)) H') ∨
   (∃ d, y = .ref d ∧ H d = some (NkO P w d) ∧ ∀ H', Same H H' → Q (.bl false) H'))
section
variable {P : Program} {w : World} {K : PySem.W.Frag} {mg : Str → Option Value} {base : Heap}
abbrev s_are_roles : Stmt := top 30
theorem sc_are_roles : FnScope ["value", "role"] ["value"] (defScope s_are_roles) := ⟨rfl, rfl, rfl, by decide +kernel, rfl, by decide +kernel, by decide +kernel⟩
theorem ok_roles_ (D : DefK K mg "_are_roles" s_are_roles) (T : Txt K mg) (G_is_word : Cal P w K mg base CX0 1 "is_word" (spWord K)) (G_is_use : Cal P w K mg base CX0 3 "_is_use" (spUseI K)) : Cal P w K mg base CX0 4 "_are_roles" (spRoles P w K) := by
  refine D.cal sc_are_roles (fun _ _ _ _ _ _ us hl => match us, hl with | [_], _ => rfl) (fun vs H Q E h => ?_) fun f cdv A outer s H vs Q E hr h => ?_
  · obtain ⟨y, rfl, _⟩ := h; rfl
  · obtain ⟨y, rfl, h⟩ := h
    refine ⟨_, (pss_cons (ps_if (PW.pt (pw_or (pt_not (pt_val (pe_callB (r := rIsiE P w K) call_isiE (by rfl) T.b_isinstance (by decide +kernel) (pa_cons (pv 0) (pa_cons (pe_ty (n := "dict") (by rfl) T.b_dict (by decide +kernel)) pa_nil))))) (pw_or1 (pt_not (pt_chain op_le op_le pe_int (pe_callB (r := rLenE P w) call_lenE (by rfl) T.b_len (by decide +kernel) (pa_cons (pv 0) pa_nil)) (pe_gc rfl T.g_MOST_ROLES)))))) (pss_one (ps_ret pe_bl)) pss_nil)
      (pss_one (ps_ret (pe_lock (pe_callB (cr_all rfl) (by rfl) T.b_all (by decide +kernel) (pa_cons (pe_lc (own := [("role", 1)]) (g := gName 1) (by rfl) sc_are_roles.nd (pi_keysE (pv 0)) (blkOk_by (own := [("role", 1)]) (N := ["value", "role"]) (sc := defScope s_are_roles) (by decide +kernel)) (fun _ _ _ _ _ => pg_name (i := 1) sc_are_roles.nd rfl (Or.inl rfl)) (fun _ _ _ _ _ => pts_nil) (fun _ _ _ _ _ => (pe_and (pe_c G_is_word hr (by decide) rfl (pa_cons (pv 1) pa_nil)) (pe_one (pe_c G_is_use hr (by decide) rfl (pa_cons (pe_dget (Nat.lt_of_le_of_lt (Nat.add_le_add_left (by decide : 1 ≤ 64) _) hr.units) (pv 0) (pv 1) (fun _ _ => rfl)) pa_nil)))))) pa_nil)))))), ?_⟩
    have lock : ∀ {d : Addr} {o : Obj} {u : HO}, H d = some u → SameB d H (upd H d (.frz o u)) ∧ ∀ H', Same (upd H d (.frz o u)) H' → Same H (upd H' d u) := fun {d o u} ed =>
      ⟨fun q o e n => by rw [upd_ne n]; exact e, fun H' s q o e => by
        by_cases c : q = d
        · rw [c] at e ⊢
          rw [upd_same, ← ed]; exact e
        · rw [upd_ne c]
          exact s _ _ (by rw [upd_ne c]; exact e)⟩
    rcases h with ⟨t, ty, kt, q⟩ | ⟨d, kvs, rfl, ed, bad, q⟩ | ⟨d, kvs, fs, rfl, ed, n1, n3, nd, pr, k⟩ | ⟨d, rfl, ed, k⟩
    · exact ⟨_, rfl, .inl ⟨y, .ty "dict", t, _, false, rfl, .ty "dict", ty, kt, false, rfl, iteT q⟩⟩
    · refine ⟨_, rfl, .inl ⟨.ref d, .ty "dict", _, _, true, rfl, .ty "dict", .base (.dK ed), kit_ty (by decide +kernel), true, rfl, iteF ?_⟩⟩
      refine ⟨_, rfl, .inl ⟨d, _, rfl, ed, 1, (kvs.length : Int), rfl, rfl, _, rfl, ?_⟩⟩
      rcases bad with b | b
      · exact iteFe (decide_eq_false (by omega)) ⟨_, rfl, iteT q⟩
      · by_cases c : (1 : Int) ≤ (kvs.length : Int)
        · exact iteTe (decide_eq_true c) ⟨_, _, rfl, rfl, _, rfl, iteTe (by rw [decide_eq_false (by omega)]; rfl) q⟩
        · exact iteFe (decide_eq_false c) ⟨_, rfl, iteT q⟩
    · refine ⟨_, rfl, .inl ⟨.ref d, .ty "dict", _, _, true, rfl, .ty "dict", .base (.dK ed), kit_ty (by decide +kernel), true, rfl, iteF ?_⟩⟩
      refine ⟨_, rfl, .inl ⟨d, _, rfl, ed, 1, (kvs.length : Int), rfl, rfl, _, rfl, ?_⟩⟩
      refine iteTe (decide_eq_true (by omega)) ⟨_, _, rfl, rfl, _, rfl, iteFe (by rw [decide_eq_true (by omega)]; rfl) ?_⟩
      refine ⟨d, _, ed, trivial, fun od => ?_⟩
      have el : upd H d (.frz od (.dK kvs)) d = some (.frz od (.dK kvs)) := upd_same
      obtain ⟨sl, back⟩ := lock (o := od) ed
      generalize upd H d (.frz od (.dK kvs)) = HL at *
      have fl := ent_len pr
      refine ⟨_, rfl, d, od, rfl, .inl ⟨_, el, fun D nD => lc_w walk_keys (fun i H' => Same HL H' ∧ H' D = some (.lst ((fs.take i).map V.bl))) ⟨same_new nD, upd_same⟩ (fun i H' z => z.1 _ _ el) ?_ ?_⟩⟩
      · rintro i H' x H2 lt ⟨s2, eD⟩ ⟨rfl, kk, vv, ek, rfl⟩
        obtain ⟨f0, ef, en⟩ := ent_get pr ek
        have tk : fs.take (i + 1) = fs.take i ++ [f0] := by rw [List.take_succ, ef]; rfl
        have l3 : ((fs.take i).map V.bl).length < sizeLine := by rw [List.length_map, List.length_take, sizeLine_eq]; omega
        have fin : ∀ H4, Same H2 H4 → ∃ acc, H4 D = some (.lst acc) ∧ acc.length < sizeLine ∧ Same HL (upd H4 D (.lst (acc ++ [V.bl f0]))) ∧ upd H4 D (.lst (acc ++ [V.bl f0])) D = some (.lst ((fs.take (i + 1)).map V.bl)) := fun H4 s4 =>
          ⟨_, s4 _ _ eD, l3, (fun q o e => by rw [upd_ne (ne_of_none e nD)]; exact s4 _ _ (s2 _ _ e)), by rw [upd_same, tk, List.map_append]; rfl⟩
        have sL : SameB d H H2 := fun q o e n => s2 _ _ (sl q o e n)
        refine ⟨rfl, yes_if ?_⟩
        rcases en with ⟨z, ez, hz, c⟩ | ⟨i0, ez, c⟩
        · have ez' : kk = .inr z := ez
          subst ez'
          refine ⟨_, rfl, .str z, rfl, .inl ⟨z, rfl, hz, _, rfl, ?_⟩⟩
          rcases c with ⟨wz, rfl⟩ | ⟨wz, ub⟩
          · rw [wz]
            exact iteF (fin _ (.refl _))
          · rw [wz]
            refine iteT ⟨_, rfl, _, rfl, d, vv, rfl, .inl ⟨kvs, .inr z, .inr ⟨od, s2 _ _ el⟩, rfl, (val_mem nd (List.mem_of_getElem? ek)).symm⟩, ub.i H2 _ sL fun H' s' => fin H' s'⟩
        · have ez' : kk = .inl i0 := ez
          subst ez' c
          exact ⟨_, rfl, .int i0, rfl, .inr ⟨_, .base (.int _), kit_ty (by decide +kernel), _, rfl, iteF (fin _ (.refl _))⟩⟩
      · rintro H' ⟨s2, eD⟩
        rw [fl, List.take_length] at eD
        refine ⟨D, fs, rfl, SqL.of eD, s2 _ _ el, ?_⟩
        exact k _ (back _ s2)
    · refine ⟨_, rfl, .inr ⟨d, rfl, ed, true, rfl, iteF ?_⟩⟩
      refine ⟨_, rfl, .inr ⟨d, rfl, ed, 1, 1, rfl, rfl, _, rfl, ?_⟩⟩
      refine iteTe (decide_eq_true (by omega)) ⟨_, _, rfl, rfl, _, rfl, iteFe (by rw [decide_eq_true (by omega)]; rfl) ?_⟩
      refine ⟨d, _, ed, trivial, fun od => ?_⟩
      have el : upd H d (.frz od (NkO P w d)) d = some (.frz od (NkO P w d)) := upd_same
      obtain ⟨sl, back⟩ := lock (o := od) ed
      generalize upd H d (.frz od (NkO P w d)) = HL at *
      refine ⟨_, rfl, d, od, rfl, .inr ⟨el, fun D nD => lc_w walk_none (fun i H' => Same HL H' ∧ H' D = some (.lst (([false].take i).map V.bl))) ⟨same_new nD, upd_same⟩ (fun i H' z => z.1 _ _ el) ?_ ?_⟩⟩
      · rintro i H' x H2 lt ⟨s2, eD⟩ ⟨rfl, rfl⟩
        obtain rfl : i = 0 := by omega
        refine ⟨rfl, yes_if ⟨_, rfl, .non, rfl, .inr ⟨_, .base .non, kit_ty (by decide +kernel), _, rfl, iteF ?_⟩⟩⟩
        exact ⟨_, eD, by show 0 < sizeLine; decide, (fun q o e => by rw [upd_ne (ne_of_none e nD)]; exact s2 _ _ e), upd_same⟩
      · rintro H' ⟨s2, eD⟩
        refine ⟨D, [false], rfl, SqL.of eD, s2 _ _ el, ?_⟩
        exact k _ (back _ s2)
theorem ok_roles (D : DefK K mg "_are_roles" s_are_roles) (T : Txt K mg) (G_is_word : Cal P w K mg base CX0 1 "is_word" (spWord K)) (G_is_use : Cal P w K mg base CX0 3 "_is_use" (spUse K)) : Cal P w K mg base CX0 4 "_are_roles" (spRoles P w K) :=
  ok_roles_ D T G_is_word (by unfold spUseI; exact G_is_use)
end
end K54C
namespace K54C
open PySem PySem.Spec PyProof.Rows L2 Jg
local macro_rules | `(tactic| walk_at "rd1") => `(tactic| (first
  | refine ⟨_, rfl, ?_⟩
  | refine ⟨_, _, rfl, rfl, ?_⟩
  | refine ⟨_, _, rfl, ?_⟩
  | refine ⟨rfl, ?_⟩
  | (refine ⟨show (0 : Int) < _ by omega, ?_⟩)
  | (refine ⟨Or.inl ⟨by omega, by omega⟩, ?_⟩)
  | (refine ⟨Or.inr ⟨by omega, by omega⟩, ?_⟩)
  | (refine ⟨(⟨by decide, by decide, by decide⟩ : CPow _ _), ?_⟩)
  | refine Or.inl ⟨_, rfl, ?_⟩
  | refine Or.inr ⟨_, rfl, ?_⟩
  | fail "rd"))
local macro_rules | `(tactic| walk_at "rd") => `(tactic| repeat' walk_at "rd1")
/-! ### the first wrong part -/
def RolesIs (P : Program) (w : World) (K : PySem.W.Frag) (H : Hp) (y : V) (fl : Bool) : Prop := ∀ (H' : Hp) (Q : VK), Same H H' → (∀ H2, Same H' H2 → Q (.bl fl) H2) → spRoles P w K [y] H' Q E0
/-- what is asked of needed -/
def NeedIs (K : PySem.W.Frag) (H : Hp) (y : V) (fl : Bool) : Prop := (∃ i, y = .int i ∧ fl = (decide (0 ≤ i) && decide (i ≤ 4))) ∨ (fl = false ∧ ∃ t b1 b2, (∀ H', Same H H' → TyX K H' y t) ∧ kit K t "int" b1 ∧ (b1 = true → kit K t "bool" b2) ∧ (b1 && !b2) = false)
def wrongV (f1 f2 f3 f4 : Bool) : V := if f1 = false then .str "roles" else if f2 = false then .str "vouchers" else if f3 = false then .str "needed" else if f4 = false then .str "signers" else .non
def spWrong (P : Program) (w : World) (K : PySem.W.Frag) : Sp := fun vs H Q _ => ∃ r v n s f1 f2 f3 f4, vs = [r, v, n, s] ∧ RolesIs P w K H r f1 ∧ KeysIs K H v 4 f2 ∧ NeedIs K H n f3 ∧ ((s = .non ∧ f4 = true) ∨ (s ≠ .non ∧ KeysIs K H s 4 f4)) ∧ ∀ H', Same H H' → Q (wrongV f1 f2 f3 f4) H'
@[irreducible] def spRolesI (P : Program) (w : World) (K : PySem.W.Frag) : Sp := spRoles P w K
theorem RolesIs.i {P : Program} {w : World} {K : PySem.W.Frag} {H : Hp} {y : V} {fl : Bool} (h : RolesIs P w K H y fl) (H' : Hp) (Q : VK) (s : Same H H') (q : ∀ H2, Same H' H2 → Q (.bl fl) H2) : spRolesI P w K [y] H' Q E0 := by
  unfold spRolesI
  exact h H' Q s q
section
variable {P : Program} {w : World} {K : PySem.W.Frag} {mg : Str → Option Value} {base : Heap}
abbrev s_wrong_part : Stmt := top 31
theorem sc_wrong_part : FnScope ["roles", "vouchers", "needed", "signers"] ["roles", "vouchers", "needed", "signers"] (defScope s_wrong_part) := ⟨rfl, rfl, rfl, by decide +kernel, rfl, by decide +kernel, by decide +kernel⟩
theorem ok_wrong_ (D : DefK K mg "_wrong_part" s_wrong_part) (T : Txt K mg) (G_is_integer : Cal P w K mg base CX0 1 "is_integer" (spIsInt K)) (G_are_different_keys : Cal P w K mg base CX0 2 "are_different_keys" (spKeysI K)) (G_are_roles : Cal P w K mg base CX0 4 "_are_roles" (spRolesI P w K)) : Cal P w K mg base CX0 5 "_wrong_part" (spWrong P w K) := by
  refine D.cal sc_wrong_part (fun _ _ _ _ _ _ us hl => match us, hl with | [_, _, _, _], _ => rfl) (fun vs H Q E h => ?_) fun f cdv A outer s H vs Q E hr h => ?_
  · obtain ⟨r, v, n, s, f1, f2, f3, f4, rfl, _⟩ := h; rfl
  · obtain ⟨r, v, n, sg, f1, f2, f3, f4, rfl, a1, a2, a3, a4, k⟩ := h
    refine ⟨_, (pss_cons (ps_if (pt_not (pt_val (pe_c G_are_roles hr (by decide) rfl (pa_cons (pv 0) pa_nil)))) (pss_one (ps_ret pe_str)) pss_nil)
      (pss_cons (ps_if (pt_not (pt_val (pe_c G_are_different_keys hr (by decide) rfl (pa_cons (pv 1) (pa_cons (pe_gc rfl T.g_MOST_VOUCHERS) pa_nil))))) (pss_one (ps_ret pe_str)) pss_nil)
      (pss_cons (ps_if (PW.pt (pw_or (pt_not (pt_val (pe_c G_is_integer hr (by decide) rfl (pa_cons (pv 2) pa_nil)))) (pw_or1 (pt_not (pt_chain op_le op_le pe_int (pv 2) (pe_gc rfl T.g_MOST_NEEDED)))))) (pss_one (ps_ret pe_str)) pss_nil)
      (pss_cons (ps_if (PW.pt (pw_and (pt_cmpR op_notN (pv 3) pe_non (nomark _)) (pw_and1 (pt_not (pt_val (pe_c G_are_different_keys hr (by decide) rfl (pa_cons (pv 3) (pa_cons (pe_gc rfl T.g_MOST_VOUCHERS) pa_nil)))))))) (pss_one (ps_ret pe_str)) pss_nil)
      (pss_one (ps_ret pe_non)))))), ?_⟩
    refine ⟨_, rfl, a1.i H _ (Same.refl _) fun H1 s1 => ⟨_, rfl, ?_⟩⟩
    cases f1 with
    | false => exact iteT (k _ s1)
    | true =>
      refine iteF ⟨_, rfl, a2.i H1 _ s1 fun H2 s2 => ⟨_, rfl, ?_⟩⟩
      have s12 := s1.trans s2
      cases f2 with
      | false => exact iteT (k _ s12)
      | true =>
        refine iteF ?_
        rcases a3 with ⟨i, rfl, e3⟩ | ⟨rfl, t, b1, b2, ty, k1, k2, e⟩
        · refine ⟨_, rfl, .int i, _, true, false, rfl, .base (.int i), kii, fun _ => kib, true, rfl, iteF ?_⟩
          refine ⟨_, rfl, 0, i, rfl, rfl, _, rfl, ?_⟩
          by_cases c1 : 0 ≤ i
          · refine iteTe (decide_eq_true c1) ⟨_, _, rfl, rfl, _, rfl, ?_⟩
            by_cases c2 : i ≤ 4
            · rw [decide_eq_true c1, decide_eq_true c2] at e3
              subst e3
              refine iteFe (by rw [decide_eq_true c2]; rfl) ⟨_, rfl, rfl, _, rfl, ?_⟩
              rcases a4 with ⟨rfl, rfl⟩ | ⟨nn, a4⟩
              · exact iteF (k _ s12)
              · refine iteTe (by rw [decide_eq_false nn]; rfl) ⟨_, rfl, a4.i H2 _ s12 fun H3 s3 => ⟨_, rfl, ?_⟩⟩
                cases f4 with
                | false => exact iteT (k _ (s12.trans s3))
                | true => exact iteF (k _ (s12.trans s3))
            · rw [decide_eq_false c2, Bool.and_false] at e3
              subst e3
              exact iteTe (by rw [decide_eq_false c2]; rfl) (k _ s12)
          · rw [decide_eq_false c1, Bool.false_and] at e3
            subst e3
            exact iteFe (decide_eq_false c1) ⟨_, rfl, iteT (k _ s12)⟩
        · refine ⟨_, rfl, n, t, b1, b2, rfl, ty _ s12, k1, k2, _, rfl, ?_⟩
          rw [e]
          exact iteT (k _ s12)
theorem ok_wrong (D : DefK K mg "_wrong_part" s_wrong_part) (T : Txt K mg) (G_is_integer : Cal P w K mg base CX0 1 "is_integer" (spIsInt K)) (G_are_different_keys : Cal P w K mg base CX0 2 "are_different_keys" (spKeys K)) (G_are_roles : Cal P w K mg base CX0 4 "_are_roles" (spRoles P w K)) : Cal P w K mg base CX0 5 "_wrong_part" (spWrong P w K) :=
  ok_wrong_ D T G_is_integer (by unfold spKeysI; exact G_are_different_keys) (by unfold spRolesI; exact G_are_roles)
end
end K54C
namespace K54C
open PySem PySem.Spec PyProof.Rows L2 Jg
local macro_rules | `(tactic| walk_at "rd1") => `(tactic| (first
  | refine ⟨_, rfl, ?_⟩
  | refine ⟨_, _, rfl, rfl, ?_⟩
  | refine ⟨_, _, rfl, ?_⟩
  | refine ⟨rfl, ?_⟩
  | (refine ⟨show (0 : Int) < _ by omega, ?_⟩)
  | (refine ⟨Or.inl ⟨by omega, by omega⟩, ?_⟩)
  | (refine ⟨Or.inr ⟨by omega, by omega⟩, ?_⟩)
  | (refine ⟨(⟨by decide, by decide, by decide⟩ : CPow _ _), ?_⟩)
  | refine Or.inl ⟨_, rfl, ?_⟩
  | refine Or.inr ⟨_, rfl, ?_⟩
  | fail "rd"))
local macro_rules | `(tactic| walk_at "rd") => `(tactic| repeat' walk_at "rd1")
/-! ### what is raised -/
structure ExnQ (K : PySem.W.Frag) (mg : Str → Option Value) (x : Str) (CI : Addr) (qual : Str) (st : Stmt) (f : Str) : Prop where
  mg_ : mg x = some (.ref CI)
  ovr : Ovr K CI
  xk : ExcK K CI
  no : PySem.W.findIn K (.ref CI) f = some none
  ini : ∃ fI fd, Fun K "__init__" qual st fI fd ∧ PySem.W.findIn K (.ref CI) "__init__" = some (some (.ref fI)) ∧ PySem.W.typeIn K (.ref fI) = some (.type "function")
  te : PySem.W.exmOne K (.ref CI) (.ref CI) = some true
theorem same_mut {H H1 : Hp} {p : Addr} {o : HO} (s : Same H H1) (h : H p = none) : Same H (upd H1 p o) := fun b u e => by rw [upd_ne (ne_of_none e h)]; exact s b u e
/-! ### keys as they are given -/
structure KL where
  a : Addr
  b : Bool
  ks : List Str
structure KLOk (K : PySem.W.Frag) (H : Hp) (l : KL) : Prop where
  sq : SqE K l.b H l.a (l.ks.map V.str)
  ty : ∀ H', Same H H' → TyX K H' (.ref l.a) (.type (if l.b then "list" else "tuple"))
  few : l.ks.length ≤ 500
  sh : ∀ k ∈ l.ks, k.length ≤ sizeLine
theorem KLOk.keep {K : PySem.W.Frag} {H H' : Hp} {l : KL} (h : KLOk K H l) (s : Same H H') : KLOk K H' l := ⟨SqE.keep h.sq s, fun H2 s2 => h.ty H2 (s.trans s2), h.few, h.sh⟩
theorem KLOk.its {K : PySem.W.Frag} {H : Hp} {l : KL} (h : KLOk K H l) : ∀ x ∈ l.ks.map V.str, ItOk K H x := fun x hx => by
  obtain ⟨z, hz, rfl⟩ := List.mem_map.mp hx
  exact .inl ⟨z, rfl, h.sh z hz⟩
theorem KLOk.is {K : PySem.W.Frag} {H : Hp} {l : KL} (h : KLOk K H l) (m : Int) : KeysIs K H (.ref l.a) m (keysB (l.ks.map V.str) m) := fun H' Q s q =>
  ⟨.ref l.a, m, rfl, .inl ⟨l.a, l.b, _, rfl, (h.keep s).sq, (h.keep s).ty, by rw [List.length_map]; exact h.few, (h.keep s).its, q⟩⟩
theorem row_ent {K : PySem.W.Frag} {d : Addr} {H : Hp} {r : Row} (R : RowOk K d H r) : EntB K d H (.inr r.z, .ref r.t) (rowB r) := by
  refine .inl ⟨r.z, rfl, R.zu.1, ?_⟩
  unfold rowB
  cases c : wordB r.z with
  | false => exact .inl ⟨rfl, rfl⟩
  | true =>
    refine .inr ⟨rfl, fun H' Q s q => ⟨_, rfl, .inr (.inr ⟨r.t, .ref r.a, .str r.u, keysB (r.ks.map V.str) 8, wordB r.u, rfl, s _ _ R.at_ R.nt, fun H2 Q2 s2 q2 => ⟨.ref r.a, 8, rfl, .inl ⟨r.a, r.b, r.ks.map V.str, rfl, SqE.keep (SqE.lock (b := r.b) R.sq s R.na) s2, fun H3 s3 => R.ty H3 fun b o e n => s3 _ _ (s2 _ _ (s b o e n)), by rw [List.length_map]; exact R.few, fun x hx => ?_, q2⟩⟩, .inl ⟨r.u, rfl, R.zu.2, rfl⟩, q⟩)⟩⟩
    obtain ⟨z, hz, rfl⟩ := List.mem_map.mp hx
    exact .inl ⟨z, rfl, R.sh z hz⟩
theorem rows_ent {K : PySem.W.Frag} {d : Addr} {H : Hp} : ∀ {rows : List Row}, (∀ r ∈ rows, RowOk K d H r) → Paired (EntB K d H) (dictOf rows) (rows.map rowB)
  | [], _ => .nil
  | r :: rest, h => .cons (row_ent (h r List.mem_cons_self)) (rows_ent fun q hq => h q (List.mem_cons_of_mem _ hq))
theorem ents_keep {K : PySem.W.Frag} {d : Addr} {H H' : Hp} (s : SameB d H H') : ∀ {kvs : List (Key × V)} {fs : List Bool}, Paired (EntB K d H) kvs fs → Paired (EntB K d H') kvs fs
  | _, _, .nil => .nil
  | _, _, .cons a r => .cons (a.keep s) (ents_keep s r)
theorem roles_of {P : Program} {w : World} {K : PySem.W.Frag} {H : Hp} {d : Addr} {kvs : List (Key × V)} {fs : List Bool} (ed : H d = some (.dK kvs)) (h1 : 1 ≤ kvs.length) (h3 : kvs.length ≤ 3) (nd : (kvs.map (·.1)).Nodup) (pr : Paired (EntB K d H) kvs fs) : RolesIs P w K H (.ref d) (fs.all id) := fun H' Q s q =>
  ⟨_, rfl, .inr (.inr (.inl ⟨d, kvs, fs, rfl, s _ _ ed, h1, h3, nd, ents_keep (fun b o e _ => s b o e) pr, q⟩))⟩
theorem roles_is {P : Program} {w : World} {K : PySem.W.Frag} {H : Hp} {d : Addr} {rows : List Row} (ed : H d = some (.dK (dictOf rows))) (h1 : 1 ≤ rows.length) (h3 : rows.length ≤ 3) (nd : (rows.map (·.z)).Nodup) (ok : ∀ r ∈ rows, RowOk K d H r) : RolesIs P w K H (.ref d) (rows.all rowB) := by
  have dl : (dictOf rows).length = rows.length := List.length_map ..
  have al : (rows.map rowB).all id = rows.all rowB := by rw [List.all_map]; rfl
  rw [← al]
  refine roles_of ed (by omega) (by omega) ?_ (rows_ent ok)
  have e : (dictOf rows).map (·.1) = (rows.map (·.z)).map Sum.inr := by unfold dictOf; rw [List.map_map, List.map_map]; rfl
  rw [e]
  exact List.pairwise_map.mpr (List.Pairwise.imp (fun h q => h (Sum.inr.inj q)) nd)
theorem needs_is {K : PySem.W.Frag} {H : Hp} {ne : Int} (h0 : 0 ≤ ne) (h4 : ne ≤ 4) : NeedIs K H (.int ne) true := .inl ⟨ne, rfl, by rw [decide_eq_true h0, decide_eq_true h4]; rfl⟩
theorem NeedIs.keep {K : PySem.W.Frag} {H H' : Hp} {y : V} {fl : Bool} (h : NeedIs K H y fl) (s : Same H H') : NeedIs K H' y fl := h.imp id fun ⟨e, t, b1, b2, ty, r⟩ => ⟨e, t, b1, b2, fun H2 s2 => ty H2 (s.trans s2), r⟩
theorem keys_once {ks : List Str} {m : Int} (h : keysB (ks.map V.str) m = true) : ks.Nodup ∧ (ks.length : Int) ≤ m ∧ ∀ k ∈ ks, wordB k = true := by
  unfold keysB at h
  obtain ⟨h1, h2⟩ := Bool.and_eq_true_iff.mp h
  obtain ⟨h3, h4⟩ := Bool.and_eq_true_iff.mp h2
  have e : (ks.map V.str).map txV = ks := by rw [List.map_map]; exact (List.map_congr_left fun _ _ => rfl).trans (List.map_id ks)
  rw [e, List.length_map] at h4
  rw [List.length_map] at h1
  have nd := (onceW_all ks []).mp (by simpa [onceW] using of_decide_eq_true h4)
  refine ⟨nd.1, ?_, fun k hk => List.all_eq_true.mp h3 _ (List.mem_map_of_mem hk)⟩
  have z : ¬ m < (ks.length : Int) := by simpa using h1
  omega
theorem once_perm {ks : List Str} (h : ks.Nodup) : (onceW ks).Perm ks := by
  exact (List.perm_ext_iff_of_nodup (l₁ := onceW ks) (onceW_nodup ks [] List.nodup_nil) h).mpr fun z => onceW_mem
/-! ### contents as they stand -/
structure Use where
  z : Str
  t : Addr
  a : Addr
  ks : List Str
  u : Str
def dictU (us : List Use) : List (Key × V) := us.map fun r => (Sum.inr r.z, V.ref r.t)
structure UAt (S : Addr → Prop) (H : Hp) (r : Use) : Prop where
  tp : H r.t = some (.tup [.ref r.a, .str r.u])
  ls : H r.a = some (.lst (r.ks.map V.str))
  st : S r.t
  sa : S r.a
structure Ct where
  us : List Use
  vo : List Str
  ne : Int
  si : List Str
def cflds (d v : Addr) (n : Int) (s : Addr) : List (Str × V) := [("_uses", .ref d), ("_vouchers", .ref v), ("_needed", .int n), ("_signers", .ref s)]
structure CAt (S : Addr → Prop) (C : Addr) (H : Hp) (x : Addr) (c : Ct) : Prop where
  ex : ∃ dx d v s, H x = some (.ins C dx (cflds d v c.ne s)) ∧ H d = some (.dK (dictU c.us)) ∧ H v = some (.lst (c.vo.map V.str)) ∧ H s = some (.lst (c.si.map V.str)) ∧ S x ∧ S d ∧ S v ∧ S s
  uses : ∀ r ∈ c.us, UAt S H r
structure KsOk (ks : List Str) (m : Nat) : Prop where
  nd : ks.Nodup
  so : sortedS ks = true
  le : ks.length ≤ m
  w : ∀ k ∈ ks, wordB k = true
structure CtOk (c : Ct) : Prop where
  n1 : 1 ≤ c.us.length
  n3 : c.us.length ≤ 3
  nd : (c.us.map (·.z)).Nodup
  so : sortedS (c.us.map (·.z)) = true
  us : ∀ r ∈ c.us, KsOk r.ks 8 ∧ wordB r.z = true ∧ wordB r.u = true
  vo : KsOk c.vo 4
  si : KsOk c.si 4
  ne : 0 ≤ c.ne ∧ c.ne ≤ 4
/-- contents that are made of what was given -/
structure Made (rows : List Row) (vks : List Str) (ne : Int) (sks : List Str) (c : Ct) : Prop where
  zs : c.us.map (·.z) = srtW (rows.map (·.z))
  us : ∀ r ∈ c.us, ∃ q ∈ rows, q.z = r.z ∧ q.u = r.u ∧ r.ks = srtW q.ks
  vo : c.vo = srtW vks
  ne : c.ne = ne
  si : c.si = srtW sks
theorem CAt.keep {S : Addr → Prop} {C : Addr} {H H' : Hp} {x : Addr} {c : Ct} (h : CAt S C H x c) (s : ∀ q o, H q = some o → S q → H' q = some o) : CAt S C H' x c := by
  obtain ⟨⟨dx, d, v, sg, e1, e2, e3, e4, k1, k2, k3, k4⟩, us⟩ := h
  exact ⟨⟨dx, d, v, sg, s _ _ e1 k1, s _ _ e2 k2, s _ _ e3 k3, s _ _ e4 k4, k1, k2, k3, k4⟩, fun r hr => ⟨s _ _ (us r hr).tp (us r hr).st, s _ _ (us r hr).ls (us r hr).sa, (us r hr).st, (us r hr).sa⟩⟩
theorem CAt.same {S : Addr → Prop} {C : Addr} {H H' : Hp} {x : Addr} {c : Ct} (h : CAt S C H x c) (s : Same H H') : CAt S C H' x c := h.keep fun q o e _ => s q o e
theorem CAt.wider {S S' : Addr → Prop} {C : Addr} {H : Hp} {x : Addr} {c : Ct} (h : CAt S C H x c) (s : ∀ q, S q → S' q) : CAt S' C H x c := by
  obtain ⟨⟨dx, d, v, sg, e1, e2, e3, e4, k1, k2, k3, k4⟩, us⟩ := h
  exact ⟨⟨dx, d, v, sg, e1, e2, e3, e4, s _ k1, s _ k2, s _ k3, s _ k4⟩, fun r hr => ⟨(us r hr).tp, (us r hr).ls, s _ (us r hr).st, s _ (us r hr).sa⟩⟩
theorem ksOk_srt {ks : List Str} {m : Nat} (h : keysB (ks.map V.str) m = true) : KsOk (srtW ks) m := by
  obtain ⟨h1, h2, h3⟩ := keys_once h
  exact ⟨srtW_nodup.mpr h1, srtW_sorted _, by rw [srtW_len]; omega, fun k hk => h3 k (srtW_mem.mp hk)⟩
theorem val_use : ∀ (us : List Use) (z : Str), z ∉ us.map (·.z) → valV (dictU us) (Sum.inr z) = none
  | [], _, _ => rfl
  | r :: rest, z, h => by
    rw [List.map_cons, List.mem_cons, not_or] at h
    show valV ((Sum.inr r.z, V.ref r.t) :: dictU rest) (Sum.inr z) = none
    rw [valV_neg (fun q => h.1 (Sum.inr.inj q).symm)]
    exact val_use rest z h.2
theorem put_use {us : List Use} {r : Use} (h : r.z ∉ us.map (·.z)) : putK (dictU us) (Sum.inr r.z) (V.ref r.t) = dictU (us ++ [r]) := by
  rw [putK_new _ (val_use us _ h)]
  unfold dictU
  rw [List.map_append]; rfl
theorem UAt.put {S : Addr → Prop} {H H' : Hp} {r : Use} (h : UAt S H r) (s : ∀ q o, H q = some o → (∃ xs, o = .lst xs) ∨ (∃ xs, o = .tup xs) → H' q = some o) : UAt S H' r := ⟨s _ _ h.tp (.inr ⟨_, rfl⟩), s _ _ h.ls (.inl ⟨_, rfl⟩), h.st, h.sa⟩
/-- the class's facts -/
structure CTx (K : PySem.W.Frag) (mg : Str → Option Value) (C : Addr) : Prop where
  cl : Cls K C
  cC : mg "Contents" = some (.ref C)
  cls_ : PySem.W.findIn K (.ref C) "__class__" = some (some (.builtin "object.__class__"))
  cgt : PySem.W.specialIn K (.builtin "object.__class__") "__get__" = some (some (.builtin "getset_descriptor.__get__"))
  ctk : PySem.W.takesIn K (.builtin "object.__class__") = some true
  mro : PySem.W.mroIn K C (.type "object") = some true
  ne : PySem.W.findIn K (.ref C) "__ne__" = some (some (.builtin "object.__ne__"))
  kCC : PySem.W.kitOne K (.ref C) (.ref C) = some true
  kN : PySem.W.kitOne K (.type "NoneType") (.ref C) = some false
  kI : PySem.W.kitOne K (.type "int") (.ref C) = some false
  kS : PySem.W.kitOne K (.type "str") (.ref C) = some false
  kL : PySem.W.kitOne K (.type "list") (.ref C) = some false
  kT : PySem.W.kitOne K (.type "tuple") (.ref C) = some false
  kD : PySem.W.kitOne K (.type "dict") (.ref C) = some false
  oCC : PySem.W.notFirst K C (.ref C) = true
  oN : PySem.W.notFirst K C (.type "NoneType") = true
  oI : PySem.W.notFirst K C (.type "int") = true
  oS : PySem.W.notFirst K C (.type "str") = true
  oL : PySem.W.notFirst K C (.type "list") = true
  oT : PySem.W.notFirst K C (.type "tuple") = true
  oD : PySem.W.notFirst K C (.type "dict") = true
  nu : NoAttr K C "_uses"
  nv : NoAttr K C "_vouchers"
  nn : NoAttr K C "_needed"
  ns : NoAttr K C "_signers"
theorem put_v (d v : V) : putF "_vouchers" v [(("_uses" : Str), d)] = [(("_uses" : Str), d), ("_vouchers", v)] := by
  have e : ¬ (("_uses" : Str) = "_vouchers") := by decide +kernel
  show (if ("_uses" : Str) = "_vouchers" then _ else _) = _
  rw [if_neg e]; rfl
theorem put_n (d v n : V) : putF "_needed" n [(("_uses" : Str), d), ("_vouchers", v)] = [(("_uses" : Str), d), ("_vouchers", v), ("_needed", n)] := by
  have e : ¬ (("_uses" : Str) = "_needed") := by decide +kernel
  have e2 : ¬ (("_vouchers" : Str) = "_needed") := by decide +kernel
  show (if ("_uses" : Str) = "_needed" then _ else _ :: (if ("_vouchers" : Str) = "_needed" then _ else _)) = _
  rw [if_neg e, if_neg e2]; rfl
theorem put_s (d v n s : V) : putF "_signers" s [(("_uses" : Str), d), ("_vouchers", v), ("_needed", n)] = [(("_uses" : Str), d), ("_vouchers", v), ("_needed", n), ("_signers", s)] := by
  have e : ¬ (("_uses" : Str) = "_signers") := by decide +kernel
  have e2 : ¬ (("_vouchers" : Str) = "_signers") := by decide +kernel
  have e3 : ¬ (("_needed" : Str) = "_signers") := by decide +kernel
  show (if ("_uses" : Str) = "_signers" then _ else _ :: (if ("_vouchers" : Str) = "_signers" then _ else _ :: (if ("_needed" : Str) = "_signers" then _ else _))) = _
  rw [if_neg e, if_neg e2, if_neg e3]; rfl
/-- what is given to Contents, all of it right -/
structure Right (K : PySem.W.Frag) (H : Hp) (r v n s : V) (rows : List Row) (lv : KL) (ne : Int) (so : Option KL) : Prop where
  r_ : ∃ d, r = .ref d ∧ H d = some (.dK (dictOf rows)) ∧ ∀ q ∈ rows, RowOk K d H q
  n1 : 1 ≤ rows.length
  n3 : rows.length ≤ 3
  nd : (rows.map (·.z)).Nodup
  rb : rows.all rowB = true
  v_ : v = .ref lv.a ∧ KLOk K H lv ∧ keysB (lv.ks.map V.str) 4 = true
  n_ : n = .int ne ∧ 0 ≤ ne ∧ ne ≤ 4
  s_ : (s = .non ∧ so = none) ∨ ∃ l, s = .ref l.a ∧ so = some l ∧ KLOk K H l ∧ keysB (l.ks.map V.str) 4 = true
def sgOf (lv : KL) (so : Option KL) : List Str := (so.getD lv).ks
/-- .. and some of it wrong -/
def Wrongly (P : Program) (w : World) (K : PySem.W.Frag) (H : Hp) (r v n s : V) (y : V) : Prop := ∃ f1 f2 f3 f4, RolesIs P w K H r f1 ∧ KeysIs K H v 4 f2 ∧ NeedIs K H n f3 ∧ ((s = .non ∧ f4 = true) ∨ (s ≠ .non ∧ KeysIs K H s 4 f4)) ∧ wrongV f1 f2 f3 f4 = y ∧ y ≠ .non
def spCInit (P : Program) (w : World) (K : PySem.W.Frag) (C CI : Addr) : Sp := fun vs H Q E => ∃ x dx r v n s H0, vs = [.ref x, r, v, n, s] ∧ H x = some (.ins C dx []) ∧ Same H0 H ∧ H0 x = none ∧
  ((∃ rows lv ne so, Right K H0 r v n s rows lv ne so ∧ ∀ H' c, CAt (fun q => H0 q = none) C H' x c → Made rows lv.ks ne (sgOf lv so) c → CtOk c → Same H0 H' → Q .non H') ∨
   (∃ y, Wrongly P w K H0 r v n s y ∧ ∀ d H', H0 d = none → Same H0 H' → H' d = some (.xd [(("part" : Str), y)]) → E (.ref CI) (some d) H'))
section
variable {P : Program} {w : World} {K : PySem.W.Frag} {mg : Str → Option Value} {base : Heap} {C CI : Addr}
abbrev s_InvalidContents_init : Stmt := inClass (top 5) 0
theorem sc_InvalidContents_init : FnScope ["self", "part"] ["self", "part"] (defScope s_InvalidContents_init) := ⟨rfl, rfl, rfl, by decide +kernel, rfl, by decide +kernel, by decide +kernel⟩
theorem ok_cxinit (D : ExnQ K mg "InvalidContents" CI "InvalidContents.__init__" s_InvalidContents_init "part") : ExnB P w K mg base 1 "InvalidContents" CI (spX CI "part") := by
  obtain ⟨fI, fd, F, a, ty⟩ := D.ini
  refine ⟨D.mg_, D.ovr, fI, fd, _, F.ok sc_InvalidContents_init (fun vs H Q E h => ?_) (fun cdv A outer s H vs Q E hr h => ?_), a, ty, F.binds (fun _ _ _ _ _ _ us hl => match us, hl with | [_, _], _ => rfl)⟩
  · obtain ⟨a, y, rfl, _⟩ := h; rfl
  · obtain ⟨a, y, rfl, ha, k⟩ := h
    exact ⟨_, (pss_one (ps_keep (pv 0) (pv 1))), _, rfl, _, rfl, a, CI, rfl, D.ovr, D.no, ha, fun dx n e => k dx n e⟩
abbrev s_Contents_init : Stmt := inClass (top 33) 0
theorem sc_Contents_init : FnScope ["self", "roles", "vouchers", "needed", "signers", "part", "role", "accepted", "used"] ["self", "roles", "vouchers", "needed", "signers"] (defScope s_Contents_init) := ⟨rfl, rfl, rfl, by decide +kernel, rfl, by decide +kernel, by decide +kernel⟩
theorem body_cinit (T : Txt K mg) (J : CTx K mg C) (G_wrong_part : Cal P w K mg base CX0 5 "_wrong_part" (spWrong P w K)) (G_in_order : Cal P w K mg base CX0 1 "_in_order" (spOrder K)) (G_InvalidContents : ExnB P w K mg base 1 "InvalidContents" CI (spX CI "part"))
    (f : Addr) : BodyX P w K mg base ["self", "roles", "vouchers", "needed", "signers", "part", "role", "accepted", "used"] "Contents.__init__" s_Contents_init f 6 (spCInit P w K C CI) := by
  intro cdv A outer s H vs Q E hr h
  obtain ⟨x, dx, r, v, n, sg, H0, rfl, hx, s0, n0, h⟩ := h
  have hu1 : (A.deeper (envOfC "Contents.__init__" (defScope s_Contents_init) s.heap.objs.size f cdv)).units + 1 < cLine := Nat.lt_of_le_of_lt (Nat.add_le_add_left (by decide : 1 ≤ 64) _) hr.units
  refine ⟨_, (pss_cons (ps_set (i := 5) sc_Contents_init.nd rfl (Or.inl rfl) (pe_c G_wrong_part hr (by decide) rfl (pa_cons (pv 1) (pa_cons (pv 2) (pa_cons (pv 3) (pa_cons (pv 4) pa_nil))))))
      (pss_cons (ps_if (pt_cmpR op_notN (pv 5) pe_non (nomark _)) (pss_one (ps_raise rfl (takes_of rfl rfl rfl rfl) (pmk_b G_InvalidContents hr (by decide) rfl (pa_cons (pv 5) pa_nil)))) pss_nil)
      (pss_cons (ps_fld (pv 0) pe_dnewK rfl)
      (pss_cons (ps_for (passes_of rfl) rfl (pi_list (pe_c G_in_order hr (by decide) rfl (pa_cons (pe_callTy (call_list_dK rfl) (by rfl) T.b_list (by decide +kernel) (pa_cons (pv 1) pa_nil)) pa_nil))) (pg_name (i := 6) sc_Contents_init.nd rfl (Or.inl rfl)) (pss_cons (ps_asg (pe_dget hu1 (pv 1) (pv 6) (fun _ _ => rfl)) (pg_tup rfl (pgs_cons (pg_name (i := 7) sc_Contents_init.nd rfl (Or.inl rfl)) (pgs_cons (pg_name (i := 8) sc_Contents_init.nd rfl (Or.inl rfl)) pgs_nil))))
      (pss_one (ps_dput hu1 (pe_fld (pv 0) rfl) (pv 6) (pe_tup (pa_cons (pe_c G_in_order hr (by decide) rfl (pa_cons (pv 7) pa_nil)) (pa_cons (pv 8) pa_nil))) rfl))))
      (pss_cons (ps_fld (pv 0) (pe_c G_in_order hr (by decide) rfl (pa_cons (pv 2) pa_nil)) rfl)
      (pss_cons (ps_fld (pv 0) (pv 3) rfl)
      (pss_one (ps_fld (pv 0) (pe_c G_in_order hr (by decide) rfl (pa_cons (pe_ifExp (pt_cmpR op_isN (pv 4) pe_non (nomark _)) (pv 2) (pv 4)) pa_nil)) rfl)))))))), ?_⟩
  have npos : (0 : Nat) < 1000 := by decide
  have one : (1 : Nat) < 1000 := by decide
  have two : (2 : Nat) < 1000 := by decide
  have three : (3 : Nat) < 1000 := by decide
  rcases h with ⟨rows, lv, ne, so, R, q⟩ | ⟨y, ⟨f1, f2, f3, f4, i1, i2, i3, i4, ey, ny⟩, k⟩
  · obtain ⟨d0, rfl, ed0, ok⟩ := R.r_
    obtain ⟨rfl, lvk, lvb⟩ := R.v_
    obtain ⟨rfl, ne0, ne4⟩ := R.n_
    have i1 : RolesIs P w K H0 (.ref d0) true := R.rb ▸ roles_is (P := P) (w := w) ed0 R.n1 R.n3 R.nd ok
    have i2 : KeysIs K H0 (.ref lv.a) 4 true := lvb ▸ lvk.is 4
    have i4 : (sg = .non ∧ true = true) ∨ (sg ≠ .non ∧ KeysIs K H0 sg 4 true) := by
      rcases R.s_ with ⟨rfl, _⟩ | ⟨l, rfl, _, lk, lb⟩
      · exact .inl ⟨rfl, rfl⟩
      · exact .inr ⟨(fun z => nomatch z), lb ▸ lk.is 4⟩
    refine ⟨_, rfl, _, rfl, _, rfl, _, rfl, .ref d0, .ref lv.a, .int ne, sg, true, true, true, true, rfl, fun H' Q s q => i1 H' Q (s0.trans s) q, fun H' Q s q => i2 H' Q (s0.trans s) q, needs_is ne0 ne4, i4.imp id fun z => ⟨z.1, fun H' Q s q => z.2 H' Q (s0.trans s) q⟩, fun H1 s1 => ?_⟩
    refine ⟨_, rfl, rfl, _, rfl, iteF ?_⟩
    have s01 := s0.trans s1
    refine fun d nd => ⟨_, rfl, x, C, dx, [], rfl, by rw [upd_ne (ne_of_none (s1 _ _ hx) nd)]; exact s1 _ _ hx, J.cl, J.nu, npos, ?_⟩
    rw [show putF "_uses" (V.ref d) [] = [(("_uses" : Str), V.ref d)] from rfl]
    have nx1 : x ≠ d := ne_of_none (s1 _ _ hx) nd
    have nd0 : H0 d = none := s01.free nd
    have sA : Same H0 (upd (upd H1 d (.dK [])) x (.ins C dx [(("_uses" : Str), V.ref d)])) := same_mut (same_new' s01 nd) n0
    have xA : upd (upd H1 d (.dK [])) x (.ins C dx [(("_uses" : Str), V.ref d)]) x = some (.ins C dx [(("_uses" : Str), V.ref d)]) := upd_same
    have dA : upd (upd H1 d (.dK [])) x (.ins C dx [(("_uses" : Str), V.ref d)]) d = some (.dK []) := by rw [upd_ne nx1.symm, upd_same]
    generalize upd (upd H1 d (.dK [])) x (.ins C dx [(("_uses" : Str), V.ref d)]) = HA at *
    have mz : (dictOf rows).map (fun kv => kV kv.1) = (rows.map (·.z)).map V.str := by unfold dictOf; rw [List.map_map, List.map_map]; rfl
    refine ⟨_, rfl, d0, dictOf rows, rfl, sA _ _ ed0, fun q9 nq => ⟨q9, true, rows.map (·.z), rfl, ?_, by rw [List.length_map]; exact Nat.le_trans R.n3 (by decide), fun ys p H2 pm sy np s2 ep => ⟨p, rfl, ⟨_, SqL.of ep⟩, ?_⟩⟩⟩
    · rw [mz]; exact SqL.of upd_same
    have pl : (ys.length : Nat) ≤ 3 := by
      have z := pm.length_eq
      have z2 := onceW_len (rows.map (·.z))
      have z3 := R.n3
      rw [List.length_map] at z2
      omega
    have pm2 : ys.Perm (rows.map (·.z)) := pm.trans (once_perm R.nd)
    have ynd : ys.Nodup := pm2.nodup_iff.mpr R.nd
    have sB : Same H0 H2 := (same_new' sA nq).trans s2
    have xB : H2 x = some (.ins C dx [(("_uses" : Str), V.ref d)]) := s2 _ _ (by rw [upd_ne (ne_of_none xA nq)]; exact xA)
    have dB : H2 d = some (.dK []) := s2 _ _ (by rw [upd_ne (ne_of_none dA nq)]; exact dA)
    have np0 : H0 p = none := (same_new' sA nq).free np
    refine for_list (K := K) (a := p) (xs := ys.map V.str) (fun i sg' Hi => ∃ v6 v7 v8 : Option V, sg' = [some (.ref x), some (.ref d0), some (.ref lv.a), some (.int ne), some sg, some .non, v6, v7, v8] ∧ ∃ us : List Use, us.map (·.z) = ys.take i ∧ Hi x = some (.ins C dx [(("_uses" : Str), V.ref d)]) ∧ Hi d = some (.dK (dictU us)) ∧ Hi p = some (.lst (ys.map V.str)) ∧ Same H0 Hi ∧ ∀ r ∈ us, UAt (fun q => H0 q = none) Hi r ∧ ∃ q ∈ rows, q.z = r.z ∧ q.u = r.u ∧ r.ks = srtW q.ks)
      ⟨_, _, _, rfl, [], rfl, xB, dB, ep, sB, fun _ h => nomatch h⟩ (fun i sg' Hi _ ⟨_, _, _, _, us, _, _, _, e, _⟩ => SqL.of e) ?_ ?_
    · rintro i v sg' Hi hv ⟨v6, v7, v8, rfl, us, uz, xi, di, pi, si, ui⟩
      obtain ⟨z, ez, rfl⟩ : ∃ z, ys[i]? = some z ∧ v = .str z := by
        rw [List.getElem?_map] at hv
        cases c : ys[i]? with
        | none => rw [c] at hv; cases hv
        | some z => rw [c] at hv; exact ⟨z, rfl, (Option.some.inj hv).symm⟩
      have zin : z ∈ rows.map (·.z) := pm2.mem_iff.mp (List.mem_of_getElem? ez)
      obtain ⟨rq, rin, rfl⟩ := List.mem_map.mp zin
      have rok := ok rq rin
      have rB := List.all_eq_true.mp R.rb rq rin
      have kB : keysB (rq.ks.map V.str) 8 = true := by unfold rowB at rB; exact (Bool.and_eq_true_iff.mp (Bool.and_eq_true_iff.mp rB).2).1
      have k1 := keys_once kB
      have tk : ys.take (i + 1) = ys.take i ++ [rq.z] := by rw [List.take_succ, ez]; rfl
      have ztk : rq.z ∉ us.map (·.z) := by
        rw [uz]
        intro hm
        have nd2 : (ys.take (i + 1)).Nodup := ynd.sublist (List.take_sublist _ _)
        rw [tk, List.nodup_append] at nd2
        exact nd2.2.2 _ hm _ (List.mem_singleton.mpr rfl) rfl
      have ul : us.length ≤ 3 := by
        have z1 := congrArg List.length uz
        rw [List.length_map, List.length_take] at z1
        omega
      refine ⟨_, rfl, _, rfl, d0, .ref rq.t, rfl, by rw [← val_row rows rq R.nd rin]; exact DGet.k (k := Sum.inr rq.z) (si _ _ ed0), rq.t, _, rfl, SqT.of (si _ _ rok.at_), rfl, _, _, rfl, _, _, rfl, rfl, ?_⟩
      refine ⟨_, rfl, rq.a, rq.b, rq.ks, rfl, SqE.keep rok.sq si, by have := k1.2.1; omega, fun y2 p2 H3 pm3 so3 np2 s3 ep2 => ⟨_, rfl, by show 2 ≤ sizeLine; decide, fun t nt => ?_⟩⟩
      have s3' : Same Hi (upd H3 t (.tup [.ref p2, .str rq.u])) := same_new' s3 nt
      have xi2 := s3' _ _ xi
      have di2 := s3' _ _ di
      have pi2 := s3' _ _ pi
      have si2 := si.trans s3'
      have np3 : H0 p2 = none := si.free np2
      have nt3 : H0 t = none := si.free (s3.free nt)
      have ui2 : ∀ r ∈ us, UAt (fun q => H0 q = none) (upd H3 t (.tup [.ref p2, .str rq.u])) r := fun r hr => (ui r hr).1.put fun q o e _ => s3' _ _ e
      have et2 : upd H3 t (.tup [.ref p2, .str rq.u]) t = some (.tup [.ref p2, .str rq.u]) := upd_same
      have ep3 : upd H3 t (.tup [.ref p2, .str rq.u]) p2 = some (.lst (y2.map V.str)) := by rw [upd_ne (ne_of_none ep2 nt)]; exact ep2
      refine ⟨_, rfl, x, C, dx, _, _, rfl, xi2, J.cl, J.nu, rfl, _, rfl, d, _, rfl, DPut.k (k := Sum.inr rq.z) di2 (by unfold dictU; rw [List.length_map, sizeLine_eq]; omega), ?_⟩
      generalize upd H3 t (.tup [.ref p2, .str rq.u]) = H4 at *
      have eq : putK (dictU us) (Sum.inr rq.z) (V.ref t) = dictU (us ++ [⟨rq.z, t, p2, y2, rq.u⟩]) := put_use (r := ⟨rq.z, t, p2, y2, rq.u⟩) ztk
      rw [eq]
      have dx2 : x ≠ d := ne_of xi2 di2 (by intro z; cases z)
      have keepU : ∀ r, UAt (fun q => H0 q = none) H4 r → UAt (fun q => H0 q = none) (upd H4 d (.dK (dictU (us ++ [⟨rq.z, t, p2, y2, rq.u⟩])))) r := fun r h => h.put fun q o e k => by
        rw [upd_ne (ne_of e di2 (by rcases k with ⟨_, rfl⟩ | ⟨_, rfl⟩ <;> (intro z; cases z)))]; exact e
      refine ⟨_, _, _, rfl, us ++ [⟨rq.z, t, p2, y2, rq.u⟩], by rw [List.map_append, uz, tk]; rfl, by rw [upd_ne dx2]; exact xi2, upd_same, by rw [upd_ne (ne_of pi2 di2 (by intro z; cases z))]; exact pi2, same_mut si2 nd0, fun r hr => ?_⟩
      rcases List.mem_append.mp hr with hr | hr
      · exact ⟨keepU r (ui2 r hr), (ui r hr).2⟩
      · obtain rfl := List.mem_singleton.mp hr
        exact ⟨keepU _ ⟨et2, ep3, nt3, np3⟩, rq, rin, rfl, rfl, srt_eq so3 (pm3.trans (once_perm k1.1))⟩
    · rintro sg' Hi ⟨v6, v7, v8, rfl, us, uz, xi, di, pi, si, ui⟩
      rw [List.length_map, List.take_length] at uz
      have nl0 : ∀ {l : KL} {m : Int}, keysB (l.ks.map V.str) m = true → m ≤ 4 → l.ks.length ≤ 60 := fun h hm => by have := (keys_once h).2.1; omega
      -- what stands so far stays
      have go : ∀ H', Same H0 H' → (∀ q o, Hi q = some o → q ≠ x → H' q = some o) → H' d = some (.dK (dictU us)) ∧ ∀ r ∈ us, UAt (fun q => H0 q = none) H' r := fun H' _ k =>
        ⟨k _ _ di (ne_of di xi (by intro z; cases z)), fun r hr => (ui r hr).1.put fun q o e j => k _ _ e (ne_of e xi (by rcases j with ⟨_, rfl⟩ | ⟨_, rfl⟩ <;> (intro z; cases z)))⟩
      refine ⟨_, rfl, lv.a, lv.b, lv.ks, rfl, SqE.keep lvk.sq si, nl0 lvb (by decide), fun vs2 pv H5 pmv sov npv s5 epv => ⟨_, rfl, x, C, dx, _, rfl, s5 _ _ xi, J.cl, J.nv, one, ?_⟩⟩
      rw [put_v]
      have npv0 : H0 pv = none := si.free npv
      have s05 := si.trans s5
      have x6 : upd H5 x (.ins C dx [(("_uses" : Str), V.ref d), ("_vouchers", .ref pv)]) x = some (.ins C dx [(("_uses" : Str), V.ref d), ("_vouchers", .ref pv)]) := upd_same
      refine ⟨_, rfl, _, rfl, x, C, dx, _, rfl, x6, J.cl, J.nn, two, ?_⟩
      rw [put_n, upd_upd]
      have x7 : upd H5 x (.ins C dx [(("_uses" : Str), V.ref d), ("_vouchers", .ref pv), ("_needed", .int ne)]) x = some (.ins C dx [(("_uses" : Str), V.ref d), ("_vouchers", .ref pv), ("_needed", .int ne)]) := upd_same
      have s07 : Same H0 (upd H5 x (.ins C dx [(("_uses" : Str), V.ref d), ("_vouchers", .ref pv), ("_needed", .int ne)])) := same_mut s05 n0
      have k7 : ∀ q o, H5 q = some o → q ≠ x → upd H5 x (.ins C dx [(("_uses" : Str), V.ref d), ("_vouchers", .ref pv), ("_needed", .int ne)]) q = some o := fun q o e n => by rw [upd_ne n]; exact e
      generalize upd H5 x (.ins C dx [(("_uses" : Str), V.ref d), ("_vouchers", .ref pv), ("_needed", .int ne)]) = H7 at *
      have pvx : pv ≠ x := fun e => by rw [e, xi] at npv; cases npv
      -- the end, over the signers
      have fin : ∀ (sk : List Str) (ys : List Str) (ps : Addr) (H8 : Hp), keysB (sk.map V.str) 4 = true → sk = sgOf lv so → ys.Perm (onceW sk) → sortedS ys = true → H7 ps = none → Same H7 H8 → H8 ps = some (.lst (ys.map V.str)) →
          Q .non (upd H8 x (.ins C dx [(("_uses" : Str), V.ref d), ("_vouchers", .ref pv), ("_needed", .int ne), ("_signers", .ref ps)])) := by
        intro sk ys2 ps H8 kb es pms sos nps s8 eps
        have k8 : ∀ q o, Hi q = some o → q ≠ x → upd H8 x (.ins C dx [(("_uses" : Str), V.ref d), ("_vouchers", .ref pv), ("_needed", .int ne), ("_signers", .ref ps)]) q = some o := fun q o e n => by rw [upd_ne n]; exact s8 _ _ (k7 _ _ (s5 _ _ e) n)
        have psx : ps ≠ x := fun e => by rw [e, x7] at nps; cases nps
        have s08 := same_mut (o := .ins C dx [(("_uses" : Str), V.ref d), ("_vouchers", .ref pv), ("_needed", .int ne), ("_signers", .ref ps)]) (s07.trans s8) n0
        obtain ⟨g1, g2⟩ := go _ s08 k8
        have oV := keys_once lvb
        have oS := keys_once kb
        have evs : vs2 = srtW lv.ks := srt_eq sov (pmv.trans (once_perm oV.1))
        have ess : ys2 = srtW sk := srt_eq sos (pms.trans (once_perm oS.1))
        have ezs : us.map (·.z) = srtW (rows.map (·.z)) := uz.trans (srt_eq sy pm2)
        have ul : us.length = rows.length := by
          have z := congrArg List.length ezs
          rw [List.length_map, srtW_len, List.length_map] at z
          exact z
        refine q _ ⟨us, vs2, ne, ys2⟩ ⟨⟨dx, d, pv, ps, upd_same, g1, ?_, ?_, n0, nd0, npv0, s07.free nps⟩, g2⟩ ⟨ezs, fun r hr => (ui r hr).2, evs, rfl, ess.trans (by rw [es])⟩ ?_ s08
        · rw [upd_ne pvx]; exact s8 _ _ (k7 _ _ epv pvx)
        · rw [upd_ne psx]; exact eps
        · refine ⟨by show 1 ≤ us.length; rw [ul]; exact R.n1, by show us.length ≤ 3; rw [ul]; exact R.n3, ?_, ?_, ?_, evs ▸ ksOk_srt lvb, ess ▸ ksOk_srt kb, ne0, ne4⟩
          · show (us.map (·.z)).Nodup
            rw [ezs]; exact srtW_nodup.mpr R.nd
          · show sortedS (us.map (·.z)) = true
            rw [ezs]; exact srtW_sorted _
          · intro r hr
            obtain ⟨_, rq, rin, e1, e2, e3⟩ := ui r hr
            have rB := List.all_eq_true.mp R.rb rq rin
            unfold rowB at rB
            obtain ⟨b1, b2⟩ := Bool.and_eq_true_iff.mp rB
            obtain ⟨b3, b4⟩ := Bool.and_eq_true_iff.mp b2
            exact ⟨e3 ▸ ksOk_srt b3, e1 ▸ b1, e2 ▸ b4⟩
      rcases R.s_ with ⟨rfl, rfl⟩ | ⟨l, rfl, rfl, lk, lb⟩
      · refine ⟨_, rfl, rfl, _, rfl, iteT ⟨_, rfl, lv.a, lv.b, lv.ks, rfl, SqE.keep lvk.sq s07, nl0 lvb (by decide), fun ys2 ps H8 pms sos nps s8 eps => ⟨_, rfl, x, C, dx, _, rfl, s8 _ _ x7, J.cl, J.ns, three, ?_⟩⟩⟩
        rw [put_s]
        exact fin lv.ks ys2 ps H8 lvb rfl pms sos nps s8 eps
      · refine ⟨_, rfl, rfl, _, rfl, iteF ⟨_, rfl, l.a, l.b, l.ks, rfl, SqE.keep lk.sq s07, nl0 lb (by decide), fun ys2 ps H8 pms sos nps s8 eps => ⟨_, rfl, x, C, dx, _, rfl, s8 _ _ x7, J.cl, J.ns, three, ?_⟩⟩⟩
        rw [put_s]
        exact fin l.ks ys2 ps H8 lb rfl pms sos nps s8 eps
  · refine ⟨_, rfl, _, rfl, _, rfl, _, rfl, r, v, n, sg, f1, f2, f3, f4, rfl, fun H' Q s q => i1 H' Q (s0.trans s) q, fun H' Q s q => i2 H' Q (s0.trans s) q, i3.keep s0, i4.imp id fun z => ⟨z.1, fun H' Q s q => z.2 H' Q (s0.trans s) q⟩, fun H1 s1 => ?_⟩
    have s01 := s0.trans s1
    refine ⟨_, rfl, rfl, _, rfl, ?_⟩
    rw [ey, decide_eq_false ny]
    exact iteT ⟨_, rfl, x_read fun d nd => k d _ (s01.free nd) (same_new' s01 nd) upd_same⟩
end
end K54C
namespace K54C
open PySem PySem.Spec PyProof.Rows L2 Jg
local macro_rules | `(tactic| walk_at "rd1") => `(tactic| (first
  | refine ⟨_, rfl, ?_⟩
  | refine ⟨_, _, rfl, rfl, ?_⟩
  | refine ⟨_, _, rfl, ?_⟩
  | refine ⟨rfl, ?_⟩
  | (refine ⟨show (0 : Int) < _ by omega, ?_⟩)
  | (refine ⟨Or.inl ⟨by omega, by omega⟩, ?_⟩)
  | (refine ⟨Or.inr ⟨by omega, by omega⟩, ?_⟩)
  | (refine ⟨(⟨by decide, by decide, by decide⟩ : CPow _ _), ?_⟩)
  | refine Or.inl ⟨_, rfl, ?_⟩
  | refine Or.inr ⟨_, rfl, ?_⟩
  | fail "rd"))
local macro_rules | `(tactic| walk_at "rd") => `(tactic| repeat' walk_at "rd1")
/-! ### draws -/
theorem seq_upd {K : PySem.W.Frag} {H : Hp} {l p : Addr} {xs : List V} {o : HO} (h : SqL K H l xs) (n : l ≠ p) : SqL K (upd H p o) l xs := by
  rcases h with (h | ⟨z, h⟩) | h
  · exact .inl (.inl (by rw [upd_ne n]; exact h))
  · exact .inl (.inr ⟨z, by rw [upd_ne n]; exact h⟩)
  · exact .inr h
def spStream (K : PySem.W.Frag) : Sp := fun vs H Q _ => ∃ (a : Addr) (ns : List Int) (k : Nat), vs = [.ref a, .int k] ∧ SqL K H a (ns.map V.int) ∧ k ≤ 1000 ∧
  ∀ p x y, H p = none → 0 ≤ x → Q (.ref p) (upd H p (.lst [.int x, .int y]))
def spDraw : Sp := fun vs H Q _ => ∃ p a b n, vs = [.ref p, .int n] ∧ H p = some (.lst [.int a, .int b]) ∧ 0 ≤ a ∧ 0 < n ∧ n.natAbs < 2 ^ 300 ∧
  ∀ v a' b', 0 ≤ v → v < n → 0 ≤ a' → Q (.int v) (upd H p (.lst [.int a', .int b']))
/-- from a list, or a sign of a text -/
def spChoose (K : PySem.W.Frag) : Sp := fun vs H Q _ => ∃ p y a b, vs = [.ref p, y] ∧ H p = some (.lst [.int a, .int b]) ∧ 0 ≤ a ∧
  ((∃ l xs, y = .ref l ∧ SqL K H l xs ∧ l ≠ p ∧ 0 < xs.length ∧ xs.length < 1000 ∧ ∀ (i : Nat) (v : V) (a' b' : Int), xs[i]? = some v → 0 ≤ a' → Q v (upd H p (.lst [.int a', .int b']))) ∨
   (∃ z : Str, y = .str z ∧ 0 < z.length ∧ z.length < 1000 ∧ ∀ (c : Nat) (a' b' : Int), c ∈ z.cps.toList → 0 ≤ a' → Q (.str ⟨#[c]⟩) (upd H p (.lst [.int a', .int b']))))
theorem i1000 {n : Int} (h0 : 0 ≤ n) (h : n < 1000) : n.natAbs < 2 ^ 300 := by
  have : n.natAbs < 1024 := by omega
  exact Nat.lt_of_lt_of_le this (by decide +kernel)
theorem SameB.refl (p : Addr) (H : Hp) : SameB p H H := fun _ _ e _ => e
theorem SameB.trans {p : Addr} {H H1 H2 : Hp} (a : SameB p H H1) (b : SameB p H1 H2) : SameB p H H2 := fun q o e n => b q o (a q o e n) n
theorem SameB.of {p : Addr} {H H1 : Hp} (a : Same H H1) : SameB p H H1 := fun q o e _ => a q o e
theorem SameB.new {p l : Addr} {H H1 : Hp} {o : HO} (a : SameB p H H1) (h : H1 l = none) : SameB p H (upd H1 l o) := fun q u e n => by
  have z := a q u e n
  rw [upd_ne (ne_of_none z h)]
  exact z
theorem SameB.mut {p : Addr} {H H1 : Hp} {o : HO} (a : SameB p H H1) : SameB p H (upd H1 p o) := fun q u e n => by
  rw [upd_ne n]
  exact a q u e n
theorem SameB.out {p : Addr} {H H1 H2 : Hp} (a : Same H H1) (b : SameB p H1 H2) (n : H p = none) : Same H H2 := fun q o e => b q o (a q o e) (ne_of_none e n)
def StA (H : Hp) (p : Addr) : Prop := ∃ a b, H p = some (.lst [.int a, .int b]) ∧ 0 ≤ a
theorem StA.ne {H : Hp} {p l : Addr} (h : StA H p) (n : H l = none) : l ≠ p := fun z => by
  obtain ⟨a, b, e, _⟩ := h
  rw [z, e] at n
  cases n
theorem ne_dec {x y : Int} : decide (V.int x = V.int y) = decide (x = y) := by
  by_cases c : x = y
  · rw [c, decide_eq_true rfl, decide_eq_true rfl]
  · rw [decide_eq_false c, decide_eq_false fun z => c (V.int.inj z)]
theorem p30 : (10 : Int) ^ (30 : Int).toNat = 1000000000000000000000000000000 := by decide +kernel
theorem SameB.free {p l : Addr} {H H' : Hp} (s : SameB p H H') (n : H' l = none) (np : l ≠ p) : H l = none := by
  cases e : H l with
  | none => rfl
  | some o =>
    have z := s l o e np
    rw [n] at z; cases z
/-! ### letters -/
def AZ (z : Str) : Prop := ∀ c ∈ z.cps.toList, 97 ≤ c ∧ c ≤ 122
theorem az_app {a b : Str} (h1 : AZ a) (h2 : AZ b) : AZ (a ++ b) := fun c h => by
  rw [Str.cps_append, Array.toList_append, List.mem_append] at h
  exact h.elim (h1 c) (h2 c)
theorem az_one {c : Nat} (h : 97 ≤ c ∧ c ≤ 122) : AZ ⟨#[c]⟩ := fun d hd => by
  have e : d = c := by simpa using hd
  rw [e]; exact h
def letters : Str := "abcdefghijklmnopqrstuvwxyz"
theorem letters_az : AZ letters := by
  have h : ∀ c ∈ letters.cps.toList, 97 ≤ c ∧ c ≤ 122 := by decide +kernel
  exact h
theorem letters_len : letters.length = 26 := by decide +kernel
/-- single signs, joined -/
def Ones (ys : List Str) : Prop := ∀ y ∈ ys, AZ y ∧ y.length = 1
theorem join_az : ∀ ys : List Str, Ones ys → AZ (Str.join Str.empty ys) ∧ (Str.join Str.empty ys).length = ys.length
  | [], _ => ⟨(fun c h => by cases h), rfl⟩
  | [x], h => ⟨(h x (by simp)).1, (h x (by simp)).2⟩
  | x :: y :: r, h => by
    obtain ⟨h1, h2⟩ := join_az (y :: r) fun z hz => h z (List.mem_cons_of_mem _ hz)
    have e : Str.join Str.empty (x :: y :: r) = x ++ Str.join Str.empty (y :: r) := by
      show x ++ Str.empty ++ Str.join Str.empty (y :: r) = _
      rw [Str.append_empty]
    rw [e]
    refine ⟨az_app (h x (by simp)).1 h1, ?_⟩
    rw [Str.length_append, h2, (h x (by simp)).2, List.length_cons, List.length_cons, List.length_cons]
    omega
theorem ones_sum : ∀ ys : List Str, Ones ys → (ys.map (·.length)).sum = ys.length
  | [], _ => rfl
  | x :: r, h => by
    rw [List.map_cons, List.sum_cons, ones_sum r fun z hz => h z (List.mem_cons_of_mem _ hz), (h x (by simp)).2, List.length_cons]
    omega
theorem az_sign : ∀ c : Nat, 97 ≤ c → c ≤ 122 → (Unicode.isAlpha c && (Unicode.isLower c && (!Unicode.isUpper c && !Unicode.isTitle c))) = true := by
  intro c h1 h2
  have h : ∀ d ∈ (List.range 26).map (97 + ·), (Unicode.isAlpha d && (Unicode.isLower d && (!Unicode.isUpper d && !Unicode.isTitle d))) = true := by decide +kernel
  exact h c (List.mem_map.mpr ⟨c - 97, List.mem_range.mpr (by omega), by show 97 + (c - 97) = c; omega⟩)
theorem az_all {z : Str} {p : Nat → Bool} (h : AZ z) (hp : ∀ c, 97 ≤ c → c ≤ 122 → p c = true) : z.cps.all p = true := by
  rw [← Array.all_toList]
  exact List.all_eq_true.mpr fun c hc => hp c (h c hc).1 (h c hc).2
theorem az_word {z : Str} (h : AZ z) (h1 : 1 ≤ z.length) (h8 : z.length ≤ 8) : wordB z = true := by
  have pos : 0 < z.cps.toList.length := by
    have e : z.length = z.cps.size := rfl
    rw [Array.length_toList]; omega
  have ha : PySem.Txt.isascii z = true := az_all h fun c _ _ => decide_eq_true (by omega)
  have hb : PySem.Txt.isalpha z = true := by
    unfold PySem.Txt.isalpha
    rw [az_all h fun c h1 h2 => (Bool.and_eq_true_iff.mp (az_sign c h1 h2)).1, Bool.and_true]
    exact decide_eq_true (by omega)
  have hc : PySem.Txt.islower z = true := by
    unfold PySem.Txt.islower
    have k1 : z.cps.any Unicode.isLower = true := by
      rw [← Array.any_toList]
      have m : z.cps.toList[0] ∈ z.cps.toList := List.getElem_mem pos
      exact List.any_eq_true.mpr ⟨_, m, (Bool.and_eq_true_iff.mp (Bool.and_eq_true_iff.mp (az_sign _ (h _ m).1 (h _ m).2)).2).1⟩
    have k2 : (z.cps.any fun c => Unicode.isUpper c || Unicode.isTitle c) = false := by
      rw [← Array.any_toList, List.any_eq_false]
      intro c hc
      have z4 := (Bool.and_eq_true_iff.mp (Bool.and_eq_true_iff.mp (az_sign _ (h _ hc).1 (h _ hc).2)).2).2
      obtain ⟨u1, u2⟩ := Bool.and_eq_true_iff.mp z4
      rw [Bool.not_eq_true'] at u1 u2
      rw [u1, u2]; simp
    rw [k1, k2]; rfl
  unfold wordB
  rw [decide_eq_true h8, ha, hb, hc]; rfl
/-- a word -/
def Wd (z : Str) : Prop := AZ z ∧ 1 ≤ z.length ∧ z.length ≤ 7
theorem Wd.ok {z : Str} (h : Wd z) : z.length ≤ sizeLine ∧ wordB z = true := ⟨by rw [sizeLine_eq]; have := h.2.2; omega, az_word h.1 h.2.1 (Nat.le_succ_of_le h.2.2)⟩
/-- the letter at a step -/
def stepC (f st : Int) (i : Nat) : Nat := 97 + ((f + st * (0 + (i : Int))) % 26).toNat
theorem stepC_inj {f st : Int} (h : st = 1 ∨ st = 3 ∨ st = 5 ∨ st = 7 ∨ st = 9 ∨ st = 11 ∨ st = 15 ∨ st = 17 ∨ st = 19 ∨ st = 21 ∨ st = 23 ∨ st = 25) {i j : Nat} (hi : i < 26) (hj : j < 26) (e : stepC f st i = stepC f st j) : i = j := by
  unfold stepC at e
  rcases h with rfl | rfl | rfl | rfl | rfl | rfl | rfl | rfl | rfl | rfl | rfl | rfl <;> omega
theorem mid_inj {a b : Str} {c d : Nat} (e : a ++ ⟨#[c]⟩ ++ b = a ++ ⟨#[d]⟩ ++ b) : c = d := by
  have z := congrArg (fun s : Str => s.cps.toList) e
  simp only [Str.cps_append, Array.toList_append] at z
  have z2 := List.append_cancel_right z
  have z3 := List.append_cancel_left z2
  simpa using z3
theorem nodup_steps {f st : Int} {hd tl : Str} (h : st = 1 ∨ st = 3 ∨ st = 5 ∨ st = 7 ∨ st = 9 ∨ st = 11 ∨ st = 15 ∨ st = 17 ∨ st = 19 ∨ st = 21 ∨ st = 23 ∨ st = 25) {n : Nat} (hn : n ≤ 26) : ((List.range n).map fun i => hd ++ (⟨#[stepC f st i]⟩ : Str) ++ tl).Nodup := by
  unfold List.Nodup
  rw [List.pairwise_map]
  refine List.Pairwise.imp_of_mem (fun {a b} ha hb lt e => ?_) List.pairwise_lt_range
  have z := stepC_inj h (by have := List.mem_range.mp ha; omega) (by have := List.mem_range.mp hb; omega) (mid_inj e)
  omega
def spWords : Sp := fun vs H Q _ => ∃ p n, vs = [.ref p, .int n] ∧ 0 ≤ n ∧ n ≤ 26 ∧ StA H p ∧ ∀ (l : Addr) (ws : List Str) (H' : Hp), H l = none → l ≠ p → ws.length = n.toNat → (∀ z ∈ ws, Wd z) → ws.Nodup → H' l = some (.lst (ws.map V.str)) → StA H' p → SameB p H H' → Q (.ref l) H'
section
variable {P : Program} {w : World} {K : PySem.W.Frag} {mg : Str → Option Value} {base : Heap}
abbrev s_law_stream : Stmt := top 87
theorem sc_law_stream : FnScope ["script", "k", "cell", "size", "mixed"] ["script", "k"] (defScope s_law_stream) := ⟨rfl, rfl, rfl, by decide +kernel, rfl, by decide +kernel, by decide +kernel⟩
theorem ok_stream (D : DefK K mg "_law_stream" s_law_stream) (T : Txt K mg) : Cal P w K mg base CX0 1 "_law_stream" (spStream K) := by
  refine D.cal sc_law_stream (fun _ _ _ _ _ _ us hl => match us, hl with | [_, _], _ => rfl) (fun vs H Q E h => ?_) fun f cdv A outer s H vs Q E hr h => ?_
  · obtain ⟨a, ns, k, rfl, _⟩ := h; rfl
  · obtain ⟨a, ns, k, rfl, hS, hk, q⟩ := h
    refine ⟨_, (pss_cons (ps_set (i := 2) sc_law_stream.nd rfl (Or.inl rfl) pe_int)
      (pss_cons (ps_if (pt_cmpR op_lt (pv 1) (pe_callB call_len_seq (by rfl) T.b_len (by decide +kernel) (pa_cons (pv 0) pa_nil)) (nomark _)) (pss_one (ps_set (i := 2) sc_law_stream.nd rfl (Or.inl rfl) (pe_ix (r := rIxL K) ix_list (pv 0) (pv 1) (fun _ _ => rfl)))) pss_nil)
      (pss_cons (ps_set (i := 3) sc_law_stream.nd rfl (Or.inl rfl) (pe_callB (call_max2 rfl) (by rfl) T.b_max (by decide +kernel) (pa_cons (pv 2) (pa_cons (pe_op op_sub (pe_un un_neg pe_int) (pv 2)) pa_nil))))
      (pss_cons (ps_set (i := 4) sc_law_stream.nd rfl (Or.inl rfl) (pe_op op_mod (pe_op op_mul (pe_op op_add (pe_op op_add (pe_op op_add (pe_op op_mod (pv 3) pe_int) (pe_op op_mul (pe_op op_mul pe_int (pv 1)) (pv 1))) (pe_op op_mul pe_int (pv 1))) pe_int) pe_int) pe_int))
      (pss_one (ps_ret (pe_lst (pa_cons (pe_op op_mul (pv 3) (pe_callTy call_int1 (by rfl) T.b_int (by decide +kernel) (pa_cons (pe_cmpR op_ge (pv 3) (pe_op op_pow pe_int pe_int) (nomark _)) pa_nil))) (pa_cons (pv 4) pa_nil))))))))), ?_⟩
    have kb : -(2 ^ 64 : Int) < (k : Int) ∧ (k : Int) < 2 ^ 64 := by omega
    refine ⟨_, rfl, _, rfl, a, _, rfl, .inl hS, _, _, rfl, rfl, _, rfl, ?_⟩
    rw [List.length_map]
    by_cases c : (k : Int) < (ns.length : Int)
    · rw [decide_eq_true c]
      have at_ : (ns.map V.int)[k]? = some (V.int (ns[k]'(by omega))) := by rw [List.getElem?_map, List.getElem?_eq_getElem (by omega)]; rfl
      refine iteT ⟨_, rfl, _, rfl, a, _, _, _, rfl, rfl, hS, atI_nat at_, ?_⟩
      walk_at "rd"
      exact ⟨by show 2 ≤ sizeLine; decide, fun p hp => q p _ _ hp (Int.mul_nonneg (by split <;> omega) (by split <;> omega))⟩
    · rw [decide_eq_false c]
      refine iteF ?_
      walk_at "rd"
      exact ⟨by show 2 ≤ sizeLine; decide, fun p hp => q p _ _ hp (Int.mul_nonneg (by split <;> omega) (by split <;> omega))⟩
abbrev s_law_draw : Stmt := top 88
theorem sc_law_draw : FnScope ["stream", "count", "result"] ["stream", "count"] (defScope s_law_draw) := ⟨rfl, rfl, rfl, by decide +kernel, rfl, by decide +kernel, by decide +kernel⟩
theorem ok_draw (D : DefK K mg "_law_draw" s_law_draw) : Cal P w K mg base CX0 1 "_law_draw" spDraw := by
  refine D.cal sc_law_draw (fun _ _ _ _ _ _ us hl => match us, hl with | [_, _], _ => rfl) (fun vs H Q E h => ?_) fun f cdv A outer s H vs Q E hr h => ?_
  · obtain ⟨p, a, b, n, rfl, _⟩ := h; rfl
  · obtain ⟨p, a, b, n, rfl, hp, ha, hn, hb, q⟩ := h
    have at0 : ∀ x y : Int, atI [V.int x, V.int y] 0 = some (V.int x) := fun _ _ => atI_nat (j := 0) rfl
    have at1 : ∀ x y : Int, atI [V.int x, V.int y] 1 = some (V.int y) := fun _ _ => atI_nat (j := 1) rfl
    have hw : CDivW a n := wide_div hn hb (by decide) (by decide)
    refine ⟨_, (pss_cons (ps_if (pt_cmpR op_gt (pe_ix (r := rIxL K) ix_list (pv 0) pe_int (fun _ _ => rfl)) pe_int (nomark _)) (pss_cons (ps_set (i := 2) sc_law_draw.nd rfl (Or.inl rfl) (pe_op op_mod (pe_ix (r := rIxL K) ix_list (pv 0) pe_int (fun _ _ => rfl)) (pv 1)))
      (pss_cons (ps_asg (pe_op op_fdivW (pe_ix (r := rIxL K) ix_list (pv 0) pe_int (fun _ _ => rfl)) (pv 1)) (pg_sub (pv 0) pe_int set_list))
      (pss_one (ps_ret (pv 2))))) pss_nil)
      (pss_cons (ps_asg (pe_op op_mod (pe_op op_add (pe_op op_mul (pe_ix (r := rIxL K) ix_list (pv 0) pe_int (fun _ _ => rfl)) pe_int) pe_int) pe_int) (pg_sub (pv 0) pe_int set_list))
      (pss_one (ps_ret (pe_op op_mod (pe_op op_fdiv (pe_op op_mod (pe_op op_mul (pe_ix (r := rIxL K) ix_list (pv 0) pe_int (fun _ _ => rfl)) (pe_ix (r := rIxL K) ix_list (pv 0) pe_int (fun _ _ => rfl))) pe_int) pe_int) (pv 1)))))), ?_⟩
    refine ⟨_, rfl, p, _, _, _, rfl, rfl, SqL.of hp, at0 _ _, _, _, rfl, rfl, _, rfl, ?_⟩
    by_cases c : 0 < a
    · rw [decide_eq_true c]
      refine iteT ⟨_, rfl, p, _, _, _, rfl, rfl, SqL.of hp, at0 _ _, _, rfl, _, _, rfl, rfl, hn, ?_⟩
      refine ⟨_, rfl, p, _, _, _, rfl, rfl, SqL.of hp, at0 _ _, _, rfl, _, _, rfl, rfl, hw, ?_⟩
      refine ⟨_, rfl, p, _, _, 0, rfl, rfl, hp, rfl, ?_⟩
      refine ⟨_, rfl, q _ _ _ (Int.emod_nonneg _ (by omega)) (Int.emod_lt_of_pos _ hn) (Int.ediv_nonneg ha (by omega))⟩
    · rw [decide_eq_false c]
      refine iteF ⟨_, rfl, p, _, _, _, rfl, rfl, SqL.of hp, at1 _ _, ?_⟩
      walk_at "rd"
      refine ⟨p, _, _, 1, rfl, rfl, hp, rfl, ?_⟩
      refine ⟨_, rfl, p, _, _, _, rfl, rfl, SqL.of upd_same, at1 _ _, _, rfl, p, _, _, _, rfl, rfl, SqL.of upd_same, at1 _ _, _, _, rfl, rfl, ?_⟩
      have m1 := Int.emod_nonneg (b * 39373 + 7) (show (2147483647 : Int) ≠ 0 by decide)
      have m2 := Int.emod_lt_of_pos (b * 39373 + 7) (show (0 : Int) < 2147483647 by decide)
      refine ⟨.inl ⟨by omega, by omega⟩, _, _, rfl, rfl, show (0 : Int) < _ by decide, _, _, rfl, rfl, ⟨by decide, by decide⟩, _, rfl, _, _, rfl, rfl, hn, ?_⟩
      exact q _ _ _ (Int.emod_nonneg _ (by omega)) (Int.emod_lt_of_pos _ hn) ha
abbrev s_law_choose : Stmt := top 89
theorem sc_law_choose : FnScope ["stream", "items"] ["stream", "items"] (defScope s_law_choose) := ⟨rfl, rfl, rfl, by decide +kernel, rfl, by decide +kernel, by decide +kernel⟩
theorem ok_choose (D : DefK K mg "_law_choose" s_law_choose) (T : Txt K mg) (G_law_draw : Cal P w K mg base CX0 1 "_law_draw" spDraw) : Cal P w K mg base CX0 2 "_law_choose" (spChoose K) := by
  refine D.cal sc_law_choose (fun _ _ _ _ _ _ us hl => match us, hl with | [_, _], _ => rfl) (fun vs H Q E h => ?_) fun f cdv A outer s H vs Q E hr h => ?_
  · obtain ⟨p, l, a, b, rfl, _⟩ := h; rfl
  · obtain ⟨p, y, a, b, rfl, hp, ha, h⟩ := h
    refine ⟨_, (pss_one (ps_ret (pe_ix (r := rIx K) ix_seq (pv 1) (pe_c G_law_draw hr (by decide) rfl (pa_cons (pv 0) (pa_cons (pe_callB call_len (by rfl) T.b_len (by decide +kernel) (pa_cons (pv 1) pa_nil)) pa_nil))) (fun _ _ => rfl)))), ?_⟩
    rcases h with ⟨l, xs, rfl, hl, n, h0, h1, q⟩ | ⟨z, rfl, h0, h1, q⟩
    · refine ⟨_, rfl, _, rfl, _, rfl, .ref l, xs.length, rfl, .inl ⟨xs, hl, rfl⟩, p, a, b, _, rfl, hp, ha, by omega, i1000 (by omega) (by omega), fun v a' b' v0 v1 a0 => ?_⟩
      have hi : v.toNat < xs.length := by omega
      have ev : xs[v.toNat]? = some (xs[v.toNat]'hi) := List.getElem?_eq_getElem hi
      have ev2 : v = ((v.toNat : Nat) : Int) := by omega
      exact .inl ⟨l, xs, v, _, rfl, rfl, seq_upd hl n, at_of ev2 ev, q v.toNat _ a' b' ev a0⟩
    · have hz : z.length ≤ sizeLine := by rw [sizeLine_eq]; omega
      refine ⟨_, rfl, _, rfl, _, rfl, .str z, z.length, rfl, ⟨hz, rfl⟩, p, a, b, _, rfl, hp, ha, by omega, i1000 (by omega) (by omega), fun v a' b' v0 v1 a0 => ?_⟩
      obtain ⟨j, rfl⟩ : ∃ j : Nat, v = (j : Int) := ⟨v.toNat, by omega⟩
      have hi : j < z.cps.toList.length := by
        have e : z.length = z.cps.size := rfl
        rw [Array.length_toList]; omega
      have ev : z.cps.toList[j]? = some (z.cps.toList[j]'hi) := List.getElem?_eq_getElem hi
      exact .inr (.inr ⟨z, _, _, rfl, rfl, hz, atI_nat ev, q _ a' b' (List.getElem_mem hi) a0⟩)
abbrev s_law_words : Stmt := top 91
theorem sc_law_words : FnScope ["stream", "count", "letters", "head", "tail", "first", "step", "at", "turn"] ["stream", "count"] (defScope s_law_words) := ⟨rfl, rfl, rfl, by decide +kernel, rfl, by decide +kernel, by decide +kernel⟩
theorem ok_words (D : DefK K mg "_law_words" s_law_words) (T : Txt K mg) (G_law_draw : Cal P w K mg base CX0 1 "_law_draw" spDraw) (G_law_choose : Cal P w K mg base CX0 2 "_law_choose" (spChoose K)) : Cal P w K mg base CX0 3 "_law_words" spWords := by
  refine D.cal sc_law_words (fun _ _ _ _ _ _ us hl => match us, hl with | [_, _], _ => rfl) (fun vs H Q E h => ?_) fun f cdv A outer s H vs Q E hr h => ?_
  · obtain ⟨p, n, rfl, _⟩ := h; rfl
  · obtain ⟨p, n, rfl, n0, n9, ⟨a, b, hp, ha⟩, k⟩ := h
    refine ⟨_, (pss_cons (ps_set (i := 2) sc_law_words.nd rfl (Or.inr rfl) pe_str)
      (pss_cons (ps_asg (pe_tup (pa_cons (pe_c G_law_draw hr (by decide) rfl (pa_cons (pv 0) (pa_cons pe_int pa_nil))) (pa_cons (pe_c G_law_choose hr (by decide) rfl (pa_cons (pv 0) (pa_cons (pe_lst (pa_cons pe_int (pa_cons pe_int (pa_cons pe_int (pa_cons pe_int (pa_cons pe_int (pa_cons pe_int (pa_cons pe_int (pa_cons pe_int (pa_cons pe_int (pa_cons pe_int (pa_cons pe_int (pa_cons pe_int pa_nil))))))))))))) pa_nil))) pa_nil))) (pg_tup rfl (pgs_cons (pg_name (i := 5) sc_law_words.nd rfl (Or.inr rfl)) (pgs_cons (pg_name (i := 6) sc_law_words.nd rfl (Or.inr rfl)) pgs_nil))))
      (pss_cons (ps_set (i := 3) sc_law_words.nd rfl (Or.inr rfl) (pe_join pe_str (pe_lc (own := [("turn", 8)]) (g := gName 8) (by rfl) sc_law_words.nd (pi_range1 (by rfl) T.b_range (pa_cons (pe_c G_law_draw hr (by decide) rfl (pa_cons (pv 0) (pa_cons pe_int pa_nil))) pa_nil)) (blkOk_by (own := [("turn", 8)]) (N := ["stream", "count", "letters", "head", "tail", "first", "step", "at", "turn"]) (sc := defScope s_law_words) (by decide +kernel)) (fun _ _ _ _ _ => pg_name (i := 8) sc_law_words.nd rfl (Or.inl rfl)) (fun _ _ _ _ _ => pts_nil) (fun _ _ _ _ _ => (pe_c G_law_choose hr (by decide) rfl (pa_cons (pv 0) (pa_cons (pv 2) pa_nil)))))))
      (pss_cons (ps_set (i := 4) sc_law_words.nd rfl (Or.inr rfl) (pe_join pe_str (pe_lc (own := [("turn", 8)]) (g := gName 8) (by rfl) sc_law_words.nd (pi_range1 (by rfl) T.b_range (pa_cons (pe_c G_law_draw hr (by decide) rfl (pa_cons (pv 0) (pa_cons pe_int pa_nil))) pa_nil)) (blkOk_by (own := [("turn", 8)]) (N := ["stream", "count", "letters", "head", "tail", "first", "step", "at", "turn"]) (sc := defScope s_law_words) (by decide +kernel)) (fun _ _ _ _ _ => pg_name (i := 8) sc_law_words.nd rfl (Or.inl rfl)) (fun _ _ _ _ _ => pts_nil) (fun _ _ _ _ _ => (pe_c G_law_choose hr (by decide) rfl (pa_cons (pv 0) (pa_cons (pv 2) pa_nil)))))))
      (pss_one (ps_ret (pe_lc (own := [("at", 7)]) (g := gName 7) (by rfl) sc_law_words.nd (pi_range1 (by rfl) T.b_range (pa_cons (pv 1) pa_nil)) (blkOk_by (own := [("at", 7)]) (N := ["stream", "count", "letters", "head", "tail", "first", "step", "at", "turn"]) (sc := defScope s_law_words) (by decide +kernel)) (fun _ _ _ _ _ => pg_name (i := 7) sc_law_words.nd rfl (Or.inl rfl)) (fun _ _ _ _ _ => pts_nil) (fun _ _ _ _ _ => (pe_op op_add_str (pe_op op_add_str (pv 3) (pe_ix (r := rIxS) ix_str (pv 2) (pe_op op_mod (pe_op op_add (pv 5) (pe_op op_mul (pv 6) (pv 7))) pe_int) (fun _ _ => rfl))) (pv 4)))))))))), ?_⟩
    refine ⟨_, rfl, p, a, b, 26, rfl, hp, ha, by decide, by decide +kernel, fun f1 a1 b1 f0 f26 ha1 => ?_⟩
    have s1 := SameB.mut (o := .lst [.int a1, .int b1]) (SameB.refl p H)
    refine ⟨_, rfl, by show 12 ≤ sizeLine; decide, fun l nl => ?_⟩
    have st1 : StA (upd H p (.lst [.int a1, .int b1])) p := ⟨a1, b1, upd_same, ha1⟩
    have lp := st1.ne nl
    refine ⟨p, .ref l, a1, b1, rfl, by rw [upd_ne lp.symm, upd_same], ha1, .inl ⟨l, _, rfl, SqL.of upd_same, lp, by show 0 < 12; decide, by show 12 < 1000; decide, fun j v a2 b2 hv ha2 => ?_⟩⟩
    have hs : ∃ n, v = V.int n ∧ (0 < n ∧ n < 26) ∧ (n = 1 ∨ n = 3 ∨ n = 5 ∨ n = 7 ∨ n = 9 ∨ n = 11 ∨ n = 15 ∨ n = 17 ∨ n = 19 ∨ n = 21 ∨ n = 23 ∨ n = 25) := by
      match j, hv with
      | 0, hv => cases hv; exact ⟨_, rfl, ⟨by decide, by decide⟩, by decide⟩
      | 1, hv => cases hv; exact ⟨_, rfl, ⟨by decide, by decide⟩, by decide⟩
      | 2, hv => cases hv; exact ⟨_, rfl, ⟨by decide, by decide⟩, by decide⟩
      | 3, hv => cases hv; exact ⟨_, rfl, ⟨by decide, by decide⟩, by decide⟩
      | 4, hv => cases hv; exact ⟨_, rfl, ⟨by decide, by decide⟩, by decide⟩
      | 5, hv => cases hv; exact ⟨_, rfl, ⟨by decide, by decide⟩, by decide⟩
      | 6, hv => cases hv; exact ⟨_, rfl, ⟨by decide, by decide⟩, by decide⟩
      | 7, hv => cases hv; exact ⟨_, rfl, ⟨by decide, by decide⟩, by decide⟩
      | 8, hv => cases hv; exact ⟨_, rfl, ⟨by decide, by decide⟩, by decide⟩
      | 9, hv => cases hv; exact ⟨_, rfl, ⟨by decide, by decide⟩, by decide⟩
      | 10, hv => cases hv; exact ⟨_, rfl, ⟨by decide, by decide⟩, by decide⟩
      | 11, hv => cases hv; exact ⟨_, rfl, ⟨by decide, by decide⟩, by decide⟩
      | j + 12, hv => cases hv
    obtain ⟨st, rfl, ⟨st0, st26⟩, odd⟩ := hs
    have s2 := (s1.new (o := .lst [.int 1, .int 3, .int 5, .int 7, .int 9, .int 11, .int 15, .int 17, .int 19, .int 21, .int 23, .int 25]) nl).mut (o := .lst [.int a2, .int b2])
    refine ⟨by show 2 ≤ sizeLine; decide, fun tp ntp => ?_⟩
    have s3 := s2.new (o := .tup [.int f1, .int st]) ntp
    have tpp : tp ≠ p := fun z => by rw [z, upd_same] at ntp; cases ntp
    refine ⟨tp, _, rfl, SqT.of upd_same, rfl, _, _, rfl, _, _, rfl, rfl, ?_⟩
    have hp3 : (upd (upd (upd (upd H p (.lst [.int a1, .int b1])) l (.lst [.int 1, .int 3, .int 5, .int 7, .int 9, .int 11, .int 15, .int 17, .int 19, .int 21, .int 23, .int 25])) p (.lst [.int a2, .int b2])) tp (.tup [.int f1, .int st])) p = some (.lst [.int a2, .int b2]) := by rw [upd_ne tpp.symm, upd_same]
    revert s3 hp3
    generalize upd (upd (upd (upd H p (.lst [.int a1, .int b1])) l (.lst [.int 1, .int 3, .int 5, .int 7, .int 9, .int 11, .int 15, .int 17, .int 19, .int 21, .int 23, .int 25])) p (.lst [.int a2, .int b2])) tp (.tup [.int f1, .int st]) = H3
    intro s3 hp3
    -- head
    refine ⟨⟨_, rfl⟩, _, rfl, p, a2, b2, 4, rfl, hp3, ha2, by decide, by decide +kernel, fun n1 a3 b3 n10 n14 ha3 => ?_⟩
    refine ⟨n1, rfl, by omega, by omega, fun D nD => ?_⟩
    have st3 : StA (upd H3 p (.lst [.int a3, .int b3])) p := ⟨a3, b3, upd_same, ha3⟩
    have Dp := st3.ne nD
    refine lc_range (lo := 0) (n := n1.toNat) (fun i H' => ∃ ys : List Str, H' D = some (.lst (ys.map V.str)) ∧ Ones ys ∧ ys.length = i ∧ StA H' p ∧ SameB p H H') ⟨[], upd_same, (fun z hz => by cases hz), rfl, ⟨a3, b3, by rw [upd_ne Dp.symm, upd_same], ha3⟩, (s3.mut).new nD⟩ (fun i H4 hi ⟨ys, hD, ho, hl, ⟨a4, b4, hp4, ha4⟩, s4⟩ => ?_) (fun H4 ⟨ys, hD, ho, hl, ⟨a4, b4, hp4, ha4⟩, s4⟩ => ?_)
    · refine ⟨rfl, ?_⟩
      refine yes_if ?_
      refine ⟨_, rfl, _, rfl, p, .str letters, a4, b4, rfl, hp4, ha4, .inr ⟨letters, rfl, by rw [letters_len]; decide, by rw [letters_len]; decide, fun c a5 b5 hc ha5 => ?_⟩⟩
      refine ⟨ys.map V.str, by rw [upd_ne Dp]; exact hD, ?_, ys ++ [⟨#[c]⟩], ?_, ?_, ?_, ⟨a5, b5, by rw [upd_ne Dp.symm, upd_same], ha5⟩, ?_⟩
      · rw [List.length_map, sizeLine_eq]; omega
      · rw [upd_same, List.map_append]; rfl
      · intro z hz
        rcases List.mem_append.mp hz with hz | hz
        · exact ho z hz
        · have e : z = ⟨#[c]⟩ := by simpa using hz
          rw [e]
          exact ⟨az_one (letters_az c hc), rfl⟩
      · rw [List.length_append, hl]; rfl
      · intro q o e n
        have nqD : q ≠ D := fun z => by
          have z1 := (s3.mut (o := .lst [.int a3, .int b3])) q o e n
          rw [z, nD] at z1; cases z1
        rw [upd_ne nqD, upd_ne n]
        exact s4 q o e n
    obtain ⟨hz1, hl1⟩ := join_az ys ho
    refine ⟨_, D, ys, rfl, rfl, .inl (SqL.of hD), by rw [ones_sum ys ho]; show ys.length + ys.length * 0 ≤ _; omega, ?_⟩
    have e0 : Str.ofString "" = Str.empty := by decide +kernel
    have ej : PySem.Txt.join (Str.ofString "") ys = Str.join Str.empty ys := by rw [e0]; exact StrLaws.glued_eq_join _ _
    have hz1' : AZ (PySem.Txt.join (Str.ofString "") ys) := ej ▸ hz1
    have hl1' : (PySem.Txt.join (Str.ofString "") ys).length ≤ 3 := by rw [ej, hl1]; omega
    clear hz1 hl1 ej
    revert hz1' hl1'
    show AZ (PySem.Txt.join (Str.ofString "") ys) → (PySem.Txt.join (Str.ofString "") ys).length ≤ 3 → _
    generalize PySem.Txt.join (Str.ofString "") ys = hd
    intro hz1 hl1
    -- tail
    have sD : SameB p H H4 := s4
    clear st3 nD
    refine ⟨⟨_, rfl⟩, _, rfl, p, a4, b4, 4, rfl, hp4, ha4, by decide, by decide +kernel, fun n2 a6 b6 n20 n24 ha6 => ?_⟩
    refine ⟨n2, rfl, by omega, by omega, fun D2 nD2 => ?_⟩
    have st6 : StA (upd H4 p (.lst [.int a6, .int b6])) p := ⟨a6, b6, upd_same, ha6⟩
    have Dp2 := st6.ne nD2
    refine lc_range (lo := 0) (n := n2.toNat) (fun i H' => ∃ ys : List Str, H' D2 = some (.lst (ys.map V.str)) ∧ Ones ys ∧ ys.length = i ∧ StA H' p ∧ SameB p H H') ⟨[], upd_same, (fun z hz => by cases hz), rfl, ⟨a6, b6, by rw [upd_ne Dp2.symm, upd_same], ha6⟩, (sD.mut).new nD2⟩ (fun i H5 hi ⟨ys, hD, ho, hl, ⟨a7, b7, hp7, ha7⟩, s5⟩ => ?_) (fun H5 ⟨ys, hD, ho, hl, ⟨a7, b7, hp7, ha7⟩, s5⟩ => ?_)
    · refine ⟨rfl, ?_⟩
      refine yes_if ?_
      refine ⟨_, rfl, _, rfl, p, .str letters, a7, b7, rfl, hp7, ha7, .inr ⟨letters, rfl, by rw [letters_len]; decide, by rw [letters_len]; decide, fun c a5 b5 hc ha5 => ?_⟩⟩
      refine ⟨ys.map V.str, by rw [upd_ne Dp2]; exact hD, ?_, ys ++ [⟨#[c]⟩], ?_, ?_, ?_, ⟨a5, b5, by rw [upd_ne Dp2.symm, upd_same], ha5⟩, ?_⟩
      · rw [List.length_map, sizeLine_eq]; omega
      · rw [upd_same, List.map_append]; rfl
      · intro z hz
        rcases List.mem_append.mp hz with hz | hz
        · exact ho z hz
        · have e : z = ⟨#[c]⟩ := by simpa using hz
          rw [e]
          exact ⟨az_one (letters_az c hc), rfl⟩
      · rw [List.length_append, hl]; rfl
      · intro q o e n
        have nqD : q ≠ D2 := fun z => by
          have z1 := (sD.mut (o := .lst [.int a6, .int b6])) q o e n
          rw [z, nD2] at z1; cases z1
        rw [upd_ne nqD, upd_ne n]
        exact s5 q o e n
    obtain ⟨hz2, hl2⟩ := join_az ys ho
    refine ⟨_, D2, ys, rfl, rfl, .inl (SqL.of hD), by rw [ones_sum ys ho]; show ys.length + ys.length * 0 ≤ _; omega, ?_⟩
    have e0 : Str.ofString "" = Str.empty := by decide +kernel
    have ej : PySem.Txt.join (Str.ofString "") ys = Str.join Str.empty ys := by rw [e0]; exact StrLaws.glued_eq_join _ _
    have hz2' : AZ (PySem.Txt.join (Str.ofString "") ys) := ej ▸ hz2
    have hl2' : (PySem.Txt.join (Str.ofString "") ys).length ≤ 3 := by rw [ej, hl2]; omega
    clear hz2 hl2 ej
    revert hz2' hl2'
    show AZ (PySem.Txt.join (Str.ofString "") ys) → (PySem.Txt.join (Str.ofString "") ys).length ≤ 3 → _
    generalize PySem.Txt.join (Str.ofString "") ys = tl
    intro hz2 hl2
    -- the words
    refine ⟨_, rfl, n, rfl, by omega, by omega, fun l3 nl3 => ?_⟩
    have stE : StA H5 p := ⟨a7, b7, hp7, ha7⟩
    have lp3 := stE.ne nl3
    have nlH : H l3 = none := by
      cases e : H l3 with
      | none => rfl
      | some o =>
        have z := s5 l3 o e lp3
        rw [nl3] at z; cases z
    refine lc_range (lo := 0) (n := n.toNat) (fun i H' => ∃ ws : List Str, H' = upd H5 l3 (.lst (ws.map V.str)) ∧ (∀ z ∈ ws, Wd z) ∧ ws.length = i ∧ ws = (List.range i).map fun i => hd ++ (⟨#[stepC f1 st i]⟩ : Str) ++ tl) ⟨[], rfl, (fun z hz => by cases hz), rfl, rfl⟩ (fun i H6 hi ⟨ws, e6, hw, hl, ew⟩ => ?_) (fun H6 ⟨ws, e6, hw, hl, ew⟩ => ?_)
    · subst e6
      refine ⟨rfl, ?_⟩
      refine yes_if ?_
      have m0 := Int.emod_nonneg (f1 + st * (0 + (i : Int))) (show (26 : Int) ≠ 0 by decide)
      have m1 := Int.emod_lt_of_pos (f1 + st * (0 + (i : Int))) (show (0 : Int) < 26 by decide)
      obtain ⟨j, ej⟩ : ∃ j : Nat, (f1 + st * (0 + (i : Int))) % 26 = (j : Int) := ⟨((f1 + st * (0 + (i : Int))) % 26).toNat, by omega⟩
      have hj : j < letters.cps.toList.length := by
        have e : letters.cps.toList.length = 26 := by decide +kernel
        omega
      have ev : letters.cps.toList[j]? = some (letters.cps.toList[j]'hj) := List.getElem?_eq_getElem hj
      have hc := letters_az _ (List.getElem_mem hj)
      refine ⟨_, rfl, _, rfl, _, rfl, _, rfl, _, rfl, st, _, rfl, rfl, .inl ⟨by omega, by omega⟩, f1, _, rfl, rfl, _, _, rfl, rfl, (by show (0 : Int) < 26; decide), ?_⟩
      refine ⟨letters, _, _, rfl, rfl, by rw [letters_len, sizeLine_eq]; decide, by rw [ej]; exact atI_nat ev, ?_⟩
      have l1 : (⟨#[letters.cps.toList[j]'hj]⟩ : Str).length = 1 := rfl
      refine ⟨hd, _, rfl, rfl, by rw [l1, sizeLine_eq]; omega, _, rfl, _, tl, rfl, rfl, by rw [Str.length_append, l1, sizeLine_eq]; omega, ?_⟩
      refine ⟨ws.map V.str, upd_same, by rw [List.length_map, sizeLine_eq]; omega, ws ++ [hd ++ ⟨#[letters.cps.toList[j]'hj]⟩ ++ tl], ?_, ?_, ?_, ?_⟩
      · rw [upd_upd, List.map_append]; rfl
      · intro z hz
        rcases List.mem_append.mp hz with hz | hz
        · exact hw z hz
        · have e : z = hd ++ ⟨#[letters.cps.toList[j]'hj]⟩ ++ tl := by simpa using hz
          rw [e]
          refine ⟨az_app (az_app hz1 (az_one hc)) hz2, ?_, ?_⟩
          · rw [Str.length_append, Str.length_append, l1]; omega
          · rw [Str.length_append, Str.length_append, l1]; omega
      · rw [List.length_append, hl]; rfl
      · have lj : letters.cps.toList[j]'hj = 97 + j := by
          have all : ∀ i, (hi : i < letters.cps.toList.length) → letters.cps.toList[i]'hi = 97 + i := by decide +kernel
          exact all j hj
        have sj : stepC f1 st i = 97 + j := by unfold stepC; rw [ej]; rfl
        rw [List.range_succ, List.map_append, ← ew, lj]
        show _ = ws ++ [hd ++ ⟨#[stepC f1 st i]⟩ ++ tl]
        rw [sj]
    · subst e6
      exact k l3 ws _ nlH lp3 hl hw (ew ▸ nodup_steps odd (by omega)) upd_same ⟨a7, b7, by rw [upd_ne lp3.symm]; exact hp7, ha7⟩ (s5.new nl3)
end
end K54C
namespace K54C
open PySem PySem.Spec PyProof.Rows L2 Jg
local macro_rules | `(tactic| walk_at "rd1") => `(tactic| (first
  | refine ⟨_, rfl, ?_⟩
  | refine ⟨_, _, rfl, rfl, ?_⟩
  | refine ⟨_, _, rfl, ?_⟩
  | refine ⟨rfl, ?_⟩
  | (refine ⟨show (0 : Int) < _ by omega, ?_⟩)
  | (refine ⟨Or.inl ⟨by omega, by omega⟩, ?_⟩)
  | (refine ⟨Or.inr ⟨by omega, by omega⟩, ?_⟩)
  | (refine ⟨(⟨by decide, by decide, by decide⟩ : CPow _ _), ?_⟩)
  | refine Or.inl ⟨_, rfl, ?_⟩
  | refine Or.inr ⟨_, rfl, ?_⟩
  | fail "rd"))
local macro_rules | `(tactic| walk_at "rd") => `(tactic| repeat' walk_at "rd1")
/-! ### contents are asked -/
theorem get_u (d v : Addr) (n : Int) (s : Addr) : (cflds d v n s).lookup ("_uses" : Str) = some (.ref d) := by
  have e : ((("_uses" : Str)) == ("_uses" : Str)) = true := by decide +kernel
  simp only [cflds, List.lookup, e]
theorem get_v (d v : Addr) (n : Int) (s : Addr) : (cflds d v n s).lookup ("_vouchers" : Str) = some (.ref v) := by
  have e1 : ((("_vouchers" : Str)) == ("_uses" : Str)) = false := by decide +kernel
  have e : ((("_vouchers" : Str)) == ("_vouchers" : Str)) = true := by decide +kernel
  simp only [cflds, List.lookup, e1, e]
theorem get_n (d v : Addr) (n : Int) (s : Addr) : (cflds d v n s).lookup ("_needed" : Str) = some (.int n) := by
  have e1 : ((("_needed" : Str)) == ("_uses" : Str)) = false := by decide +kernel
  have e2 : ((("_needed" : Str)) == ("_vouchers" : Str)) = false := by decide +kernel
  have e : ((("_needed" : Str)) == ("_needed" : Str)) = true := by decide +kernel
  simp only [cflds, List.lookup, e1, e2, e]
theorem get_s (d v : Addr) (n : Int) (s : Addr) : (cflds d v n s).lookup ("_signers" : Str) = some (.ref s) := by
  have e1 : ((("_signers" : Str)) == ("_uses" : Str)) = false := by decide +kernel
  have e2 : ((("_signers" : Str)) == ("_vouchers" : Str)) = false := by decide +kernel
  have e3 : ((("_signers" : Str)) == ("_needed" : Str)) = false := by decide +kernel
  have e : ((("_signers" : Str)) == ("_signers" : Str)) = true := by decide +kernel
  simp only [cflds, List.lookup, e1, e2, e3, e]
theorem get_no (d v : Addr) (n : Int) (s : Addr) {m : Str} (h1 : (m == ("_uses" : Str)) = false) (h2 : (m == ("_vouchers" : Str)) = false) (h3 : (m == ("_needed" : Str)) = false) (h4 : (m == ("_signers" : Str)) = false) : (cflds d v n s).lookup m = none := by
  simp only [cflds, List.lookup, h1, h2, h3, h4]
theorem val_in : ∀ (us : List Use) (r : Use), (us.map (·.z)).Nodup → r ∈ us → valV (dictU us) (Sum.inr r.z) = some (.ref r.t) := by
  intro us
  induction us with
  | nil => intro r _ h; cases h
  | cons p rest ih =>
    intro r nd hr
    rw [List.map_cons, List.nodup_cons] at nd
    show valV ((Sum.inr p.z, V.ref p.t) :: dictU rest) (Sum.inr r.z) = _
    rcases List.mem_cons.mp hr with e | h
    · rw [e]; exact valV_pos (p := (Sum.inr p.z, V.ref p.t)) rfl
    · have ne : ¬ ((Sum.inr p.z, V.ref p.t) : Key × V).1 = Sum.inr r.z := fun q => nd.1 (List.mem_map.mpr ⟨r, h, (Sum.inr.inj q).symm⟩)
      rw [valV_neg ne]
      exact ih r nd.2 h
/-- no role of these contents -/
def NoRole (K : PySem.W.Frag) (H : Hp) (c : Ct) (y : V) : Prop := (∃ z, y = .str z ∧ z.length ≤ sizeLine ∧ z ∉ c.us.map (·.z)) ∨ ∃ t, (∀ H', Same H H' → TyX K H' y t) ∧ kit K t "str" false
def spLst (C : Addr) (f : Ct → List Str) : Sp := fun vs H Q _ => ∃ x c S, vs = [.ref x] ∧ CAt S C H x c ∧ ∀ p, H p = none → Q (.ref p) (upd H p (.lst ((f c).map V.str)))
/-- of a role; what is read of its use -/
def spRole (K : PySem.W.Frag) (C CU : Addr) (out : Use → VK → Hp → Prop) : Sp := fun vs H Q E => ∃ x y c S, vs = [.ref x, y] ∧ CAt S C H x c ∧ CtOk c ∧
  ((∃ r ∈ c.us, y = .str r.z ∧ out r Q H) ∨ (NoRole K H c y ∧ ∀ d H', H d = none → H' d = some (.xd [(("name" : Str), y)]) → Same H H' → E (.ref CU) (some d) H'))
def outT : Use → VK → Hp → Prop := fun r Q H => Q (.ref r.t) H
def outA : Use → VK → Hp → Prop := fun r Q H => ∀ p, H p = none → Q (.ref p) (upd H p (.lst (r.ks.map V.str)))
def outU : Use → VK → Hp → Prop := fun r Q H => Q (.str r.u) H
theorem NoRole.keep {K : PySem.W.Frag} {H H' : Hp} {c : Ct} {y : V} (h : NoRole K H c y) (s : Same H H') : NoRole K H' c y := h.imp id fun ⟨t, ty, k⟩ => ⟨t, fun H2 s2 => ty H2 (s.trans s2), k⟩
theorem word_size {z : Str} (h : wordB z = true) : z.length ≤ sizeLine := by
  unfold wordB at h
  have := of_decide_eq_true (Bool.and_eq_true_iff.mp h).1
  rw [sizeLine_eq]; omega
section
variable {P : Program} {w : World} {K : PySem.W.Frag} {mg : Str → Option Value} {base : Heap} {C CU : Addr}
abbrev s_UnknownName_init : Stmt := inClass (top 9) 0
theorem sc_UnknownName_init : FnScope ["self", "name"] ["self", "name"] (defScope s_UnknownName_init) := ⟨rfl, rfl, rfl, by decide +kernel, rfl, by decide +kernel, by decide +kernel⟩
theorem ok_uinit (D : ExnQ K mg "UnknownName" CU "UnknownName.__init__" s_UnknownName_init "name") : ExnB P w K mg base 1 "UnknownName" CU (spX CU "name") := by
  obtain ⟨fI, fd, F, a, ty⟩ := D.ini
  refine ⟨D.mg_, D.ovr, fI, fd, _, F.ok sc_UnknownName_init (fun vs H Q E h => ?_) (fun cdv A outer s H vs Q E hr h => ?_), a, ty, F.binds (fun _ _ _ _ _ _ us hl => match us, hl with | [_, _], _ => rfl)⟩
  · obtain ⟨a, y, rfl, _⟩ := h; rfl
  · obtain ⟨a, y, rfl, ha, k⟩ := h
    exact ⟨_, (pss_one (ps_keep (pv 0) (pv 1))), _, rfl, _, rfl, a, CU, rfl, D.ovr, D.no, ha, fun dx n e => k dx n e⟩
abbrev s_Contents_roles : Stmt := inClass (top 33) 1
theorem sc_Contents_roles : FnScope ["self"] ["self"] (defScope s_Contents_roles) := ⟨rfl, rfl, rfl, by decide +kernel, rfl, by decide +kernel, by decide +kernel⟩
theorem ok_croles (D : PrpK K C "roles" "Contents.roles" s_Contents_roles) (T : Txt K mg) (J : CTx K mg C) : Prp P w K mg base CX0 1 C "roles" (spLst C fun c => c.us.map (·.z)) := by
  refine D.prp sc_Contents_roles (fun _ _ _ _ _ _ us hl => match us, hl with | [_], _ => rfl) (fun vs H Q E h => ?_) fun f cdv A outer s H vs Q E hr h => ?_
  · obtain ⟨x, c, S, rfl, _⟩ := h; rfl
  · obtain ⟨x, c, S, rfl, ⟨⟨dx, d, v, sg, e1, e2, e3, e4, _⟩, _⟩, k⟩ := h
    refine ⟨_, (pss_one (ps_ret (pe_callTy (call_list_dK rfl) (by rfl) T.b_list (by decide +kernel) (pa_cons (pe_fld (pv 0) rfl) pa_nil)))), ?_⟩
    have mz : (dictU c.us).map (fun kv => kV kv.1) = (c.us.map (·.z)).map V.str := by unfold dictU; rw [List.map_map, List.map_map]; rfl
    refine ⟨_, rfl, x, C, dx, _, _, rfl, e1, J.cl, J.nu, get_u _ _ _ _, d, dictU c.us, rfl, e2, fun q nq => ?_⟩
    rw [mz]
    exact k q nq
abbrev s_Contents_use : Stmt := inClass (top 33) 7
theorem sc_Contents_use : FnScope ["self", "role"] ["self", "role"] (defScope s_Contents_use) := ⟨rfl, rfl, rfl, by decide +kernel, rfl, by decide +kernel, by decide +kernel⟩
theorem ok_cuse (D : MetK K C "_use" "Contents._use" s_Contents_use) (T : Txt K mg) (J : CTx K mg C) (G_is_word : Cal P w K mg base CX0 1 "is_word" (spWord K)) (G_UnknownName : ExnB P w K mg base 1 "UnknownName" CU (spX CU "name")) : Met P w K mg base (L2.CX P w) 3 C "_use" (spRole K C CU outT) := by
  refine D.metX sc_Contents_use (fun _ _ _ _ _ _ us hl => match us, hl with | [_, _], _ => rfl) (fun vs H Q E h => ?_) fun f cdv A outer s H vs Q E hr h => ?_
  · obtain ⟨x, y, c, S, rfl, _⟩ := h; rfl
  · obtain ⟨x, y, c, S, rfl, ⟨⟨dx, d, v, sg, e1, e2, e3, e4, _⟩, _⟩, ok, h⟩ := h
    have hu1 : (A.deeper (envOfC "Contents._use" (defScope s_Contents_use) s.heap.objs.size f cdv)).units + 1 < cLine := Nat.lt_of_le_of_lt (Nat.add_le_add_left (by decide : 1 ≤ 64) _) hr.units
    refine ⟨_, (pss_cons (ps_if (PW.pt (pw_or (pt_not (pt_val (pe_c G_is_word hr (by decide) rfl (pa_cons (pv 1) pa_nil)))) (pw_or1 (pt_cmp (pc_dnotin hu1 (pv 1) (pe_fld (pv 0) rfl)))))) (pss_one (ps_raise rfl (takes_of rfl rfl rfl rfl) (pmk_b G_UnknownName hr (by decide) rfl (pa_cons (pv 1) pa_nil)))) pss_nil)
      (pss_one (ps_ret (pe_dget hu1 (pe_fld (pv 0) rfl) (pv 1) (fun _ _ => rfl))))), ?_⟩
    rcases h with ⟨r, hr', rfl, q⟩ | ⟨⟨z, rfl, hz, no⟩ | ⟨t, ty, kt⟩, k⟩
    · have v1 := val_in c.us r ok.nd hr'
      refine ⟨_, rfl, .str r.z, rfl, .inl ⟨r.z, rfl, word_size (ok.us r hr').2.1, _, rfl, ?_⟩⟩
      rw [(ok.us r hr').2.1]
      refine iteF ⟨_, rfl, _, rfl, x, C, dx, _, _, rfl, e1, J.cl, J.nu, get_u _ _ _ _, d, _, rfl, DGet.k (k := Sum.inr r.z) e2, _, rfl, ?_⟩
      rw [v1]
      exact iteF ⟨_, rfl, x, C, dx, _, _, rfl, e1, J.cl, J.nu, get_u _ _ _ _, _, rfl, d, .ref r.t, rfl, by rw [← v1]; exact DGet.k (k := Sum.inr r.z) e2, q⟩
    · have v1 := val_use c.us z no
      refine ⟨_, rfl, .str z, rfl, .inl ⟨z, rfl, hz, _, rfl, ?_⟩⟩
      cases cw : wordB z with
      | false => exact iteT ⟨_, rfl, x_read fun d nd => k d _ nd upd_same (same_new nd)⟩
      | true =>
        refine iteF ⟨_, rfl, _, rfl, x, C, dx, _, _, rfl, e1, J.cl, J.nu, get_u _ _ _ _, d, _, rfl, DGet.k (k := Sum.inr z) e2, _, rfl, ?_⟩
        rw [v1]
        exact iteT ⟨_, rfl, x_read fun d nd => k d _ nd upd_same (same_new nd)⟩
    · exact ⟨_, rfl, y, rfl, .inr ⟨t, ty _ (.refl _), kt, _, rfl, iteT ⟨_, rfl, x_read fun d nd => k d _ nd upd_same (same_new nd)⟩⟩⟩
abbrev s_Contents_accepted : Stmt := inClass (top 33) 5
theorem sc_Contents_accepted : FnScope ["self", "role"] ["self", "role"] (defScope s_Contents_accepted) := ⟨rfl, rfl, rfl, by decide +kernel, rfl, by decide +kernel, by decide +kernel⟩
theorem ok_cacc (D : MetK K C "accepted" "Contents.accepted" s_Contents_accepted) (T : Txt K mg) (J : CTx K mg C) (M_use : Met P w K mg base (L2.CX P w) 3 C "_use" (spRole K C CU outT)) : Met P w K mg base (L2.CX P w) 4 C "accepted" (spRole K C CU outA) := by
  refine D.metX sc_Contents_accepted (fun _ _ _ _ _ _ us hl => match us, hl with | [_, _], _ => rfl) (fun vs H Q E h => ?_) fun f cdv A outer s H vs Q E hr h => ?_
  · obtain ⟨x, y, c, S, rfl, _⟩ := h; rfl
  · obtain ⟨x, y, c, S, rfl, at_, ok, h⟩ := h
    obtain ⟨⟨dx, d, v, sg, e1, e2, e3, e4, _⟩, us⟩ := id at_
    refine ⟨_, (pss_one (ps_ret (pe_callTy call_list_of (by rfl) T.b_list (by decide +kernel) (pa_cons (pe_ix (r := rIxT K) ix_tup (pe_mS M_use J.cl (takes_of rfl rfl rfl rfl) hr (by decide) (pv 0) (pa_cons (pv 1) pa_nil)) pe_int (fun _ _ => rfl)) pa_nil)))), ?_⟩
    refine ⟨_, rfl, x, dx, _, rfl, e1, get_no _ _ _ _ (by decide +kernel) (by decide +kernel) (by decide +kernel) (by decide +kernel), _, rfl, x, y, c, S, rfl, at_, ok, ?_⟩
    rcases h with ⟨r, hr', rfl, q⟩ | ⟨no, k⟩
    · refine .inl ⟨r, hr', rfl, r.t, _, _, _, rfl, rfl, SqT.of (us r hr').tp, atI_nat (j := 0) rfl, r.a, _, rfl, .inl (SqL.of (us r hr').ls), fun p np => q p np⟩
    · exact .inr ⟨no, fun d H' nd ed s2 => k d H' nd ed s2⟩
abbrev s_Contents_used : Stmt := inClass (top 33) 6
theorem sc_Contents_used : FnScope ["self", "role"] ["self", "role"] (defScope s_Contents_used) := ⟨rfl, rfl, rfl, by decide +kernel, rfl, by decide +kernel, by decide +kernel⟩
theorem ok_cused (D : MetK K C "used" "Contents.used" s_Contents_used) (T : Txt K mg) (J : CTx K mg C) (M_use : Met P w K mg base (L2.CX P w) 3 C "_use" (spRole K C CU outT)) : Met P w K mg base (L2.CX P w) 4 C "used" (spRole K C CU outU) := by
  refine D.metX sc_Contents_used (fun _ _ _ _ _ _ us hl => match us, hl with | [_, _], _ => rfl) (fun vs H Q E h => ?_) fun f cdv A outer s H vs Q E hr h => ?_
  · obtain ⟨x, y, c, S, rfl, _⟩ := h; rfl
  · obtain ⟨x, y, c, S, rfl, at_, ok, h⟩ := h
    obtain ⟨⟨dx, d, v, sg, e1, e2, e3, e4, _⟩, us⟩ := id at_
    refine ⟨_, (pss_one (ps_ret (pe_ix (r := rIxT K) ix_tup (pe_mS M_use J.cl (takes_of rfl rfl rfl rfl) hr (by decide) (pv 0) (pa_cons (pv 1) pa_nil)) pe_int (fun _ _ => rfl)))), ?_⟩
    refine ⟨_, rfl, x, dx, _, rfl, e1, get_no _ _ _ _ (by decide +kernel) (by decide +kernel) (by decide +kernel) (by decide +kernel), _, rfl, x, y, c, S, rfl, at_, ok, ?_⟩
    rcases h with ⟨r, hr', rfl, q⟩ | ⟨no, k⟩
    · exact .inl ⟨r, hr', rfl, r.t, _, _, _, rfl, rfl, SqT.of (us r hr').tp, atI_nat (j := 1) rfl, q⟩
    · exact .inr ⟨no, fun d H' nd ed s2 => k d H' nd ed s2⟩
end
end K54C
namespace K54C
open PySem PySem.Spec PyProof.Rows L2 Jg
local macro_rules | `(tactic| walk_at "rd1") => `(tactic| (first
  | refine ⟨_, rfl, ?_⟩
  | refine ⟨_, _, rfl, rfl, ?_⟩
  | refine ⟨_, _, rfl, ?_⟩
  | refine ⟨rfl, ?_⟩
  | (refine ⟨show (0 : Int) < _ by omega, ?_⟩)
  | (refine ⟨Or.inl ⟨by omega, by omega⟩, ?_⟩)
  | (refine ⟨Or.inr ⟨by omega, by omega⟩, ?_⟩)
  | (refine ⟨(⟨by decide, by decide, by decide⟩ : CPow _ _), ?_⟩)
  | refine Or.inl ⟨_, rfl, ?_⟩
  | refine Or.inr ⟨_, rfl, ?_⟩
  | fail "rd"))
local macro_rules | `(tactic| walk_at "rd") => `(tactic| repeat' walk_at "rd1")
/-! ### contents are compared, and asked for keys -/
theorem CTx.ty {K : PySem.W.Frag} {mg : Str → Option Value} {C : Addr} (J : CTx K mg C) {H : Hp} {x dx : Addr} {fs : List (Str × V)} (h : H x = some (.ins C dx fs)) : TyX K H (.ref x) (.ref C) := .base (.ins h J.cl J.cls_ J.cgt J.ctk J.mro)
def tri (r : Use) : Str × List Str × Str := (r.z, r.ks, r.u)
def usD (us : List Use) : List (Key × PyData) := us.map fun r => (Sum.inr r.z, .tuple [.list (r.ks.map PyData.str), .str r.u])
def ctB (c e : Ct) : Bool := decide (c.us.map tri = e.us.map tri) && (decide (c.vo = e.vo) && (decide (c.ne = e.ne) && decide (c.si = e.si)))
theorem okW_word {z : Str} (h : wordB z = true) : okW z := by
  unfold wordB at h
  exact okW_ascii (Bool.and_eq_true_iff.mp (Bool.and_eq_true_iff.mp h).2).1
theorem KsOk.okW {ks : List Str} {m : Nat} (h : KsOk ks m) : ∀ z ∈ ks, okW z := fun z hz => okW_word (h.w z hz)
theorem eqv_use (k1 k2 : List Str) (u1 u2 : Str) : PyData.eqv (.tuple [.list (k1.map PyData.str), .str u1]) (.tuple [.list (k2.map PyData.str), .str u2]) = (decide (k1 = k2) && decide (u1 = u2)) := by
  rw [PyData.eqv]
  show (PyData.eqv (.list (k1.map PyData.str)) (.list (k2.map PyData.str)) && (PyData.eqv (.str u1) (.str u2) && true)) = _
  rw [eqv_strs, eqv_str, Bool.and_true]
theorem sh_use {k : List Str} {u : Str} (h : ∀ z ∈ k, okW z) (hu : okW u) : Sh40 (.tuple [.list (k.map PyData.str), .str u]) := by
  have e : PyData.canLay0 (.str u) = true := by
    unfold Jg.okW at hu
    simp [PyData.canLay0, hu]
  refine ⟨?_, ?_⟩
  · show (PyData.canLayAll0 (k.map PyData.str) && (PyData.canLay0 (.str u) && true)) = true
    rw [lay_strs k h, e]; rfl
  · show max (PyData.depthAll (k.map PyData.str) + 1) (max 0 0) + 1 ≤ 40
    rw [depth_strs]; decide
theorem dv_us {K : PySem.W.Frag} {S : Addr → Prop} {H : Hp} : ∀ {us : List Use}, (∀ r ∈ us, UAt S H r) → (∀ r ∈ us, KsOk r.ks 8 ∧ wordB r.z = true ∧ wordB r.u = true) → DvK K H (dictU us) (usD us)
  | [], _, _ => .nil
  | r :: rest, h, k => .cons ⟨rfl, .tup (SqT.of (h r (List.mem_cons_self ..)).tp) (.cons (dp_strs (SqL.of (h r (List.mem_cons_self ..)).ls)) (.cons (.str _) .nil)), sh_use (k r (List.mem_cons_self ..)).1.okW (okW_word (k r (List.mem_cons_self ..)).2.2)⟩
      (dv_us (fun r hr => h r (List.mem_cons_of_mem _ hr)) fun r hr => k r (List.mem_cons_of_mem _ hr))
theorem look_in : ∀ (us : List Use) (r : Use), (us.map (·.z)).Nodup → r ∈ us → look (usD us) (Sum.inr r.z) = some (.tuple [.list (r.ks.map PyData.str), .str r.u]) := by
  intro us
  induction us with
  | nil => intro r _ h; cases h
  | cons p rest ih =>
    intro r nd hr
    rw [List.map_cons, List.nodup_cons] at nd
    show (if (Sum.inr p.z : Key) = Sum.inr r.z then _ else look (usD rest) (Sum.inr r.z)) = _
    rcases List.mem_cons.mp hr with e | h
    · rw [e, if_pos rfl]
    · rw [if_neg fun q => nd.1 (List.mem_map.mpr ⟨r, h, (Sum.inr.inj q).symm⟩)]
      exact ih r nd.2 h
theorem look_not : ∀ (us : List Use) (z : Str), z ∉ us.map (·.z) → look (usD us) (Sum.inr z) = none
  | [], _, _ => rfl
  | p :: rest, z, h => by
    rw [List.map_cons, List.mem_cons, not_or] at h
    show (if (Sum.inr p.z : Key) = Sum.inr z then _ else look (usD rest) (Sum.inr z)) = _
    rw [if_neg fun q => h.1 (Sum.inr.inj q).symm]
    exact look_not rest z h.2
theorem eqv_uses {c e : Ct} (hc : CtOk c) (he : CtOk e) : eqvD (usD c.us) (usD e.us) = decide (c.us.map tri = e.us.map tri) := by
  rw [Bool.eq_iff_iff, decide_eq_true_iff]
  unfold eqvD
  rw [Bool.and_eq_true, List.all_eq_true]
  constructor
  · rintro ⟨hl, ha⟩
    have hl' : c.us.length = e.us.length := by
      have := eq_of_beq hl
      unfold usD at this
      rwa [List.length_map, List.length_map] at this
    -- each use of the first is one of the second
    have each : ∀ r ∈ c.us, ∃ q ∈ e.us, q.z = r.z ∧ r.ks = q.ks ∧ r.u = q.u := by
      intro r hr
      have h := ha (Sum.inr r.z, .tuple [.list (r.ks.map PyData.str), .str r.u]) (List.mem_map.mpr ⟨r, hr, rfl⟩)
      by_cases m : r.z ∈ e.us.map (·.z)
      · obtain ⟨q, hq, ez⟩ := List.mem_map.mp m
        have l := look_in e.us q he.nd hq
        rw [ez] at l
        simp only [l] at h
        rw [eqv_use, Bool.and_eq_true, decide_eq_true_iff, decide_eq_true_iff] at h
        exact ⟨q, hq, ez, h.1, h.2⟩
      · have l := look_not e.us r.z m
        simp only [l] at h
        cases h
    have zs : c.us.map (·.z) = e.us.map (·.z) := eq_sorted he.so hc.so hc.nd (fun x hx => by
      obtain ⟨r, hr, rfl⟩ := List.mem_map.mp hx
      obtain ⟨q, hq, ez, _⟩ := each r hr
      exact List.mem_map.mpr ⟨q, hq, ez⟩) (by rw [List.length_map, List.length_map]; exact hl')
    refine List.ext_getElem (by rw [List.length_map, List.length_map]; exact hl') fun i h1 h2 => ?_
    rw [List.getElem_map, List.getElem_map]
    rw [List.length_map] at h1 h2
    obtain ⟨q, hq, ez, e1, e2⟩ := each c.us[i] (List.getElem_mem h1)
    have zi : c.us[i].z = e.us[i].z := by
      have := congrArg (fun l => l[i]?) zs
      simp only [List.getElem?_map, List.getElem?_eq_getElem h1, List.getElem?_eq_getElem h2, Option.map_some] at this
      exact Option.some.inj this
    have l1 := look_in e.us q he.nd hq
    have l2 := look_in e.us e.us[i] he.nd (List.getElem_mem h2)
    rw [ez, zi, l2] at l1
    have l3 := Option.some.inj l1
    have l4 : PyData.eqv (.tuple [.list (e.us[i].ks.map PyData.str), .str e.us[i].u]) (.tuple [.list (q.ks.map PyData.str), .str q.u]) = true := by
      rw [← l3, eqv_use, decide_eq_true rfl, decide_eq_true rfl]; rfl
    rw [eqv_use, Bool.and_eq_true, decide_eq_true_iff, decide_eq_true_iff] at l4
    unfold tri
    rw [zi, e1, e2, l4.1, l4.2]
  · intro h
    have hl := congrArg List.length h
    rw [List.length_map, List.length_map] at hl
    refine ⟨by unfold usD; rw [List.length_map, List.length_map, hl]; exact beq_self_eq_true _, fun p hp => ?_⟩
    obtain ⟨r, hr, rfl⟩ := List.mem_map.mp hp
    have m : tri r ∈ e.us.map tri := h ▸ List.mem_map_of_mem hr
    obtain ⟨q, hq, et⟩ := List.mem_map.mp m
    have ez : q.z = r.z := congrArg Prod.fst et
    have ek : q.ks = r.ks := congrArg (fun t => t.2.1) et
    have eu : q.u = r.u := congrArg (fun t => t.2.2) et
    have l := look_in e.us q he.nd hq
    rw [ez] at l
    simp only [l]
    rw [eqv_use, ek, eu, decide_eq_true rfl, decide_eq_true rfl]; rfl
def spCEq (K : PySem.W.Frag) (C : Addr) : Sp := fun vs H Q _ => ∃ x y c S, vs = [.ref x, y] ∧ CAt S C H x c ∧ CtOk c ∧
  ((∃ x2 c2 S2, y = .ref x2 ∧ CAt S2 C H x2 c2 ∧ CtOk c2 ∧ Q (.bl (ctB c c2)) H) ∨ (∃ t, TyX K H y t ∧ PySem.W.kitOne K t (.ref C) = some false ∧ Q (.bl false) H))
def inCt (c : Ct) (z : Str) : Bool := wordB z && c.us.any fun r => decide (z ∈ r.ks)
def spCIn (K : PySem.W.Frag) (C : Addr) : Sp := fun vs H Q _ => ∃ x y c S, vs = [.ref x, y] ∧ CAt S C H x c ∧ CtOk c ∧
  ((∃ z, y = .str z ∧ z.length ≤ sizeLine ∧ ∀ H', Same H H' → Q (.bl (inCt c z)) H') ∨ (∃ t, TyX K H y t ∧ kit K t "str" false ∧ Q (.bl false) H))
section
variable {P : Program} {w : World} {K : PySem.W.Frag} {mg : Str → Option Value} {base : Heap} {C : Addr}
abbrev s_Contents_eq : Stmt := inClass (top 33) 8
theorem sc_Contents_eq : FnScope ["self", "other"] ["self", "other"] (defScope s_Contents_eq) := ⟨rfl, rfl, rfl, by decide +kernel, rfl, by decide +kernel, by decide +kernel⟩
theorem ok_ceq (D : MetK K C "__eq__" "Contents.__eq__" s_Contents_eq) (T : Txt K mg) (J : CTx K mg C) : Met P w K mg base CX0 1 C "__eq__" (spCEq K C) := by
  refine D.met sc_Contents_eq (fun _ _ _ _ _ _ us hl => match us, hl with | [_, _], _ => rfl) (fun vs H Q E h => ?_) fun f cdv A outer s H vs Q E hr h => ?_
  · obtain ⟨x, y, c, S, rfl, _⟩ := h; rfl
  · obtain ⟨x, y, c, S, rfl, at_, ok, h⟩ := h
    obtain ⟨⟨dx, d, v, sg, e1, e2, e3, e4, _⟩, us⟩ := id at_
    refine ⟨_, (pss_one (ps_ret (pe_and (pe_callB call_isi (by rfl) T.b_isinstance (by decide +kernel) (pa_cons (pv 1) (pa_cons (pe_glob (v := .ref C) rfl J.cC rfl) pa_nil))) (pe_and (pe_cmpR (op_eqDD hr.units) (pe_fld (pv 0) rfl) (pe_fld (pv 1) rfl) (nomark _)) (pe_and (pe_cmpR (op_eqD hr.units) (pe_fld (pv 0) rfl) (pe_fld (pv 1) rfl) (nomark _)) (pe_and (pe_cmpR op_eq (pe_fld (pv 0) rfl) (pe_fld (pv 1) rfl) (nomark _)) (pe_one (pe_cmpR (op_eqD hr.units) (pe_fld (pv 0) rfl) (pe_fld (pv 1) rfl) (nomark _))))))))), ?_⟩
    rcases h with ⟨x2, c2, S2, rfl, at2, ok2, q⟩ | ⟨t, ty, kt, q⟩
    · obtain ⟨⟨dx2, d2, v2, sg2, f1, f2, f3, f4, _⟩, us2⟩ := id at2
      refine ⟨_, rfl, .ref x2, .ref C, _, _, true, rfl, .own C, J.ty f1, J.kCC, _, rfl, iteT ?_⟩
      refine ⟨_, rfl, x, C, dx, _, _, rfl, e1, J.cl, J.nu, get_u _ _ _ _, _, rfl, x2, C, dx2, _, _, rfl, f1, J.cl, J.nu, get_u _ _ _ _, d, d2, _, _, _, _, rfl, rfl, e2, f2, dv_us us ok.us, dv_us us2 ok2.us, _, rfl, ?_⟩
      rw [eqv_uses ok ok2]
      unfold ctB at q
      by_cases c1 : c.us.map tri = c2.us.map tri
      · rw [decide_eq_true c1] at q ⊢
        refine iteT ⟨_, rfl, x, C, dx, _, _, rfl, e1, J.cl, J.nv, get_v _ _ _ _, _, rfl, x2, C, dx2, _, _, rfl, f1, J.cl, J.nv, get_v _ _ _ _, ask_eqS (SqL.of e3) (SqL.of f3) ok.vo.okW ok2.vo.okW ⟨_, rfl, ?_⟩⟩
        by_cases c2' : c.vo = c2.vo
        · rw [decide_eq_true c2'] at q ⊢
          refine iteT ⟨_, rfl, x, C, dx, _, _, rfl, e1, J.cl, J.nn, get_n _ _ _ _, _, rfl, x2, C, dx2, _, _, rfl, f1, J.cl, J.nn, get_n _ _ _ _, rfl, _, rfl, ?_⟩
          have en : decide (V.int c.ne = V.int c2.ne) = decide (c.ne = c2.ne) := by
            rw [Bool.eq_iff_iff, decide_eq_true_iff, decide_eq_true_iff]
            exact ⟨V.int.inj, fun h => by rw [h]⟩
          rw [en]
          by_cases c3 : c.ne = c2.ne
          · rw [decide_eq_true c3] at q ⊢
            refine iteT ⟨_, rfl, x, C, dx, _, _, rfl, e1, J.cl, J.ns, get_s _ _ _ _, _, rfl, x2, C, dx2, _, _, rfl, f1, J.cl, J.ns, get_s _ _ _ _, ask_eqS (SqL.of e4) (SqL.of f4) ok.si.okW ok2.si.okW q⟩
          · rw [decide_eq_false c3] at q ⊢
            exact iteF q
        · rw [decide_eq_false c2'] at q ⊢
          exact iteF q
      · rw [decide_eq_false c1] at q ⊢
        exact iteF q
    · exact ⟨_, rfl, y, .ref C, _, _, false, rfl, .own C, ty, kt, _, rfl, iteF q⟩
end
end K54C
namespace K54C
open PySem PySem.Spec PyProof.Rows L2 Jg
local macro_rules | `(tactic| walk_at "rd1") => `(tactic| (first
  | refine ⟨_, rfl, ?_⟩
  | refine ⟨_, _, rfl, rfl, ?_⟩
  | refine ⟨_, _, rfl, ?_⟩
  | refine ⟨rfl, ?_⟩
  | (refine ⟨show (0 : Int) < _ by omega, ?_⟩)
  | (refine ⟨Or.inl ⟨by omega, by omega⟩, ?_⟩)
  | (refine ⟨Or.inr ⟨by omega, by omega⟩, ?_⟩)
  | (refine ⟨(⟨by decide, by decide, by decide⟩ : CPow _ _), ?_⟩)
  | refine Or.inl ⟨_, rfl, ?_⟩
  | refine Or.inr ⟨_, rfl, ?_⟩
  | fail "rd"))
local macro_rules | `(tactic| walk_at "rd") => `(tactic| repeat' walk_at "rd1")
/-! ### what is given, as it is drawn -/
theorem StA.no {H : Hp} {p l : Addr} {o : HO} (h : StA H p) (e : H l = some o) (n : ∀ a b : Int, o ≠ .lst [.int a, .int b]) : l ≠ p := fun z => by
  obtain ⟨a, b, e2, _⟩ := h
  rw [z, e2] at e
  exact n a b (Option.some.inj e).symm
theorem strs_no {ws : List Str} (a b : Int) : HO.lst (ws.map V.str) ≠ .lst [.int a, .int b] := fun z => by
  injection z with z
  cases ws with
  | nil => cases z
  | cons x r => injection z with z1 z2; cases z1
theorem refs_no {ws : List Addr} (a b : Int) : HO.lst (ws.map V.ref) ≠ .lst [.int a, .int b] := fun z => by
  injection z with z
  cases ws with
  | nil => cases z
  | cons x r => injection z with z1 z2; cases z1
theorem StA.new {H : Hp} {p l : Addr} {o : HO} (h : StA H p) (n : H l = none) : StA (upd H l o) p := by
  obtain ⟨a, b, e, z⟩ := h
  exact ⟨a, b, by rw [upd_ne (ne_of_none e n)]; exact e, z⟩
theorem StA.keep {H H' : Hp} {p : Addr} (h : StA H p) (s : Same H H') : StA H' p := by
  obtain ⟨a, b, e, z⟩ := h
  exact ⟨a, b, s _ _ e, z⟩
theorem StA.neS {H : Hp} {p l : Addr} {ws : List Str} (h : StA H p) (e : H l = some (.lst (ws.map V.str))) : l ≠ p := h.no e strs_no
@[irreducible] def spDr : Sp := spDraw
@[irreducible] def spCh (K : PySem.W.Frag) : Sp := spChoose K
theorem use_draw {H : Hp} {p : Addr} {n : Int} {Q : VK} {E : XK} (st : StA H p) (h1 : 0 < n) (h2 : n < 1000) (k : ∀ v H', 0 ≤ v → v < n → StA H' p → SameB p H H' → Q (.int v) H') : spDr [.ref p, .int n] H Q E := by
  unfold spDr
  have h2 := i1000 (by omega) h2
  obtain ⟨a, b, e, ha⟩ := st
  exact ⟨p, a, b, n, rfl, e, ha, h1, h2, fun v a' b' v0 v1 h => k v _ v0 v1 ⟨a', b', upd_same, h⟩ (SameB.refl _ _).mut⟩
theorem use_choose {K : PySem.W.Frag} {H : Hp} {p l : Addr} {xs : List V} {Q : VK} {E : XK} (st : StA H p) (hl : SqL K H l xs) (n : l ≠ p) (h1 : 0 < xs.length) (h2 : xs.length < 1000) (k : ∀ v H', v ∈ xs → StA H' p → SameB p H H' → Q v H') : spCh K [.ref p, .ref l] H Q E := by
  unfold spCh
  obtain ⟨a, b, e, ha⟩ := st
  exact ⟨p, .ref l, a, b, rfl, e, ha, .inl ⟨l, xs, rfl, hl, n, h1, h2, fun i v a' b' e h => k v _ (List.mem_of_getElem? e) ⟨a', b', upd_same, h⟩ (SameB.refl _ _).mut⟩⟩
theorem drI {P : Program} {w : World} {K : PySem.W.Frag} {mg : Str → Option Value} {base : Heap} {k : Nat} {x : Str} (h : Cal P w K mg base CX0 k x spDraw) : Cal P w K mg base CX0 k x spDr := by unfold spDr; exact h
theorem chI {P : Program} {w : World} {K : PySem.W.Frag} {mg : Str → Option Value} {base : Heap} {k : Nat} {x : Str} (h : Cal P w K mg base CX0 k x (spChoose K)) : Cal P w K mg base CX0 k x (spCh K) := by unfold spCh; exact h
theorem str_at {ws : List Str} {i : Nat} {x : V} (h : (ws.map V.str)[i]? = some x) : ∃ z, ws[i]? = some z ∧ x = .str z := by
  rw [List.getElem?_map] at h
  cases c : ws[i]? with
  | none => rw [c] at h; cases h
  | some z => rw [c] at h; exact ⟨z, rfl, (Option.some.inj h).symm⟩
theorem str_mem {ws : List Str} {x : V} (h : x ∈ ws.map V.str) : ∃ z ∈ ws, x = .str z := by
  obtain ⟨z, hz, e⟩ := List.mem_map.mp h
  exact ⟨z, hz, e.symm⟩
@[irreducible] def spSome (K : PySem.W.Frag) : Sp := fun vs H Q _ => ∃ (p l : Addr) (ws : List Str), vs = [.ref p, .ref l] ∧ StA H p ∧ H l = some (.lst (ws.map V.str)) ∧ ws.length ≤ 100 ∧
  ∀ (D : Addr) (us : List Str) (H' : Hp), H D = none → us.Sublist ws → H' D = some (.lst (us.map V.str)) → StA H' p → SameB p H H' → Q (.ref D) H'
theorem use_some {K : PySem.W.Frag} {H : Hp} {p l : Addr} {ws : List Str} {Q : VK} {E : XK} (st : StA H p) (el : H l = some (.lst (ws.map V.str))) (few : ws.length ≤ 100) (k : ∀ (D : Addr) (us : List Str) (H' : Hp), H D = none → us.Sublist ws → H' D = some (.lst (us.map V.str)) → StA H' p → SameB p H H' → Q (.ref D) H') : spSome K [.ref p, .ref l] H Q E := by
  unfold spSome
  exact ⟨p, l, ws, rfl, st, el, few, k⟩
structure TRow (H : Hp) (r : Use) : Prop where
  tp : H r.t = some (.tup [.str r.z, .ref r.a, .str r.u])
  ls : H r.a = some (.lst (r.ks.map V.str))
structure Td where
  rows : List Use
  vo : List Str
  le : Int
  sg : Option (List Str)
/-- signers as they are given -/
def SgAt (H : Hp) (sv : V) : Option (List Str) → Prop
  | none => sv = .non
  | some ks => ∃ l, sv = .ref l ∧ H l = some (.lst (ks.map V.str))
structure TdAt (H : Hp) (q : Addr) (d : Td) : Prop where
  ex : ∃ lr lv sv, H q = some (.tup [.ref lr, .ref lv, .int d.le, sv]) ∧ H lr = some (.lst ((d.rows.map (·.t)).map V.ref)) ∧ H lv = some (.lst (d.vo.map V.str)) ∧ SgAt H sv d.sg
  rows : ∀ r ∈ d.rows, TRow H r
theorem TRow.keep {H H' : Hp} {p : Addr} {r : Use} (h : TRow H r) (st : StA H p) (s : SameB p H H') : TRow H' r :=
  ⟨s _ _ h.tp (st.no h.tp fun _ _ z => nomatch z), s _ _ h.ls (st.neS h.ls)⟩
theorem SgAt.keep {H H' : Hp} {p : Addr} {sv : V} {o : Option (List Str)} (h : SgAt H sv o) (st : StA H p) (s : SameB p H H') : SgAt H' sv o := by
  cases o with
  | none => exact h
  | some ks =>
    obtain ⟨l, e, h⟩ := h
    exact ⟨l, e, s _ _ h (st.neS h)⟩
theorem TdAt.keep {H H' : Hp} {p q : Addr} {d : Td} (h : TdAt H q d) (st : StA H p) (s : SameB p H H') : TdAt H' q d := by
  obtain ⟨⟨lr, lv, sv, e1, e2, e3, e4⟩, rs⟩ := h
  exact ⟨⟨lr, lv, sv, s _ _ e1 (st.no e1 fun _ _ z => nomatch z), s _ _ e2 (st.no e2 refs_no), s _ _ e3 (st.neS e3), e4.keep st s⟩, fun r hr => (rs r hr).keep st s⟩
theorem TdAt.same {H H' : Hp} {q : Addr} {d : Td} (h : TdAt H q d) (s : Same H H') : TdAt H' q d := by
  obtain ⟨⟨lr, lv, sv, e1, e2, e3, e4⟩, rs⟩ := h
  refine ⟨⟨lr, lv, sv, s _ _ e1, s _ _ e2, s _ _ e3, ?_⟩, fun r hr => ⟨s _ _ (rs r hr).tp, s _ _ (rs r hr).ls⟩⟩
  cases e : d.sg with
  | none => rw [e] at e4; exact e4
  | some ks =>
    rw [e] at e4
    obtain ⟨l, el, h⟩ := e4
    exact ⟨l, el, s _ _ h⟩
/-- drawn from these words -/
structure TdOk (parts keys hands : List Str) (d : Td) : Prop where
  zs : d.rows.map (·.z) = parts
  rows : ∀ r ∈ d.rows, r.u ∈ keys ∧ r.ks.Nodup ∧ ∀ k ∈ r.ks, k ∈ keys
  vo : d.vo.Sublist hands
  le : 0 ≤ d.le ∧ d.le < 3
  sg : ∀ ks, d.sg = some ks → ks.Sublist hands
def spTold (K : PySem.W.Frag) : Sp := fun vs H Q _ => ∃ (p l1 l2 l3 : Addr) (parts keys hands : List Str), vs = [.ref p, .ref l1, .ref l2, .ref l3] ∧ StA H p ∧ H l1 = some (.lst (parts.map V.str)) ∧ H l2 = some (.lst (keys.map V.str)) ∧ H l3 = some (.lst (hands.map V.str)) ∧
  parts.length ≤ 3 ∧ 0 < keys.length ∧ keys.length ≤ 50 ∧ keys.Nodup ∧ hands.length ≤ 50 ∧ ∀ q d H', TdOk parts keys hands d → H q = none → TdAt H' q d → StA H' p → SameB p H H' → Q (.ref q) H'
section
variable {P : Program} {w : World} {K : PySem.W.Frag} {mg : Str → Option Value} {base : Heap}
abbrev s_law_some : Stmt := top 90
theorem sc_law_some : FnScope ["stream", "items", "item"] ["stream", "items"] (defScope s_law_some) := ⟨rfl, rfl, rfl, by decide +kernel, rfl, by decide +kernel, by decide +kernel⟩
theorem ok_some (D : DefK K mg "_law_some" s_law_some) (G_law_draw : Cal P w K mg base CX0 1 "_law_draw" spDr) : Cal P w K mg base CX0 2 "_law_some" (spSome K) := by
  refine D.cal sc_law_some (fun _ _ _ _ _ _ us hl => match us, hl with | [_, _], _ => rfl) (fun vs H Q E h => ?_) fun f cdv A outer s H vs Q E hr h => ?_
  · unfold spSome at h
    obtain ⟨p, l, ws, rfl, _⟩ := h; rfl
  · unfold spSome at h
    obtain ⟨p, l, ws, rfl, st, el, few, k⟩ := h
    refine ⟨_, (pss_one (ps_ret (pe_lc (own := [("item", 2)]) (g := gName 2) (by rfl) sc_law_some.nd (pi_list (pv 1)) (blkOk_by (own := [("item", 2)]) (N := ["stream", "items", "item"]) (sc := defScope s_law_some) (by decide +kernel)) (fun _ _ _ _ _ => pg_name (i := 2) sc_law_some.nd rfl (Or.inl rfl)) (fun _ _ _ _ _ => (pts_one (pt_cmpR op_eq (pe_c G_law_draw hr (by decide) rfl (pa_cons (pv 0) (pa_cons pe_int pa_nil))) pe_int (nomark _)))) (fun _ _ _ _ _ => (pv 2))))), ?_⟩
    refine ⟨_, rfl, l, rfl, ⟨_, SqL.of el⟩, fun D nD => lc_list (K := K) (a := l) (xs := ws.map V.str) (fun i H' => ∃ us : List Str, H' D = some (.lst (us.map V.str)) ∧ us.Sublist (ws.take i) ∧ StA H' p ∧ SameB p H H') ⟨[], upd_same, List.nil_sublist _, st.new nD, (SameB.refl p H).new nD⟩ (fun i H' _ ⟨us, _, _, _, s⟩ => SqL.of (s _ _ el (st.neS el))) ?_ ?_⟩
    · rintro i x H' hx ⟨us, eD, sub, st', s'⟩
      obtain ⟨z, ez, rfl⟩ : ∃ z, ws[i]? = some z ∧ x = .str z := str_at hx
      have Dp := st.ne nD
      have tk : ws.take (i + 1) = ws.take i ++ [z] := by rw [List.take_succ, ez]; rfl
      refine ⟨rfl, _, rfl, use_draw st' (by decide) (by decide) fun v H2 v0 v1 st2 s2 => ⟨rfl, _, rfl, ?_⟩⟩
      rw [ne_dec]
      have eD2 := s2 _ _ eD Dp
      have len : us.length ≤ 100 := by
        have l1 := sub.length_le
        rw [List.length_take] at l1
        omega
      by_cases c : v = 0
      · rw [decide_eq_true c]
        refine iteT ⟨_, rfl, _, eD2, by rw [List.length_map, sizeLine_eq]; omega, us ++ [z], by rw [upd_same, List.map_append]; rfl, by rw [tk]; exact sub.append_right _, ?_, ?_⟩
        · obtain ⟨a, b, e, h⟩ := st2
          exact ⟨a, b, by rw [upd_ne Dp.symm]; exact e, h⟩
        · exact fun q o e n => by rw [upd_ne (ne_of_none e nD)]; exact s2 _ _ (s' _ _ e n) n
      · rw [decide_eq_false c]
        exact iteF ⟨us, eD2, by rw [tk]; exact sub.trans (List.sublist_append_left _ _), st2, s'.trans s2⟩
    · rintro H' ⟨us, eD, sub, st', s'⟩
      rw [List.length_map, List.take_length] at sub
      exact k D us H' nD sub eD st' s'
abbrev s_law_told : Stmt := top 94
theorem sc_law_told : FnScope ["stream", "parts", "keys", "hands", "rows", "part", "signing", "vouch", "least", "likes", "own"] ["stream", "parts", "keys", "hands"] (defScope s_law_told) := ⟨rfl, rfl, rfl, by decide +kernel, rfl, by decide +kernel, by decide +kernel⟩
theorem ok_told (D : DefK K mg "_law_told" s_law_told) (G_law_draw : Cal P w K mg base CX0 1 "_law_draw" spDr) (G_law_choose : Cal P w K mg base CX0 2 "_law_choose" (spCh K)) (G_law_some : Cal P w K mg base CX0 2 "_law_some" (spSome K)) : Cal P w K mg base CX0 3 "_law_told" (spTold K) := by
  refine D.cal sc_law_told (fun _ _ _ _ _ _ us hl => match us, hl with | [_, _, _, _], _ => rfl) (fun vs H Q E h => ?_) fun f cdv A outer s H vs Q E hr h => ?_
  · obtain ⟨p, l1, l2, l3, parts, keys, hands, rfl, _⟩ := h; rfl
  · obtain ⟨p, l1, l2, l3, parts, keys, hands, rfl, st, e1, e2, e3, np3, nk, k50, knd, h50, k⟩ := h
    refine ⟨_, (pss_cons (ps_set (i := 4) sc_law_told.nd rfl (Or.inl rfl) (pe_lst pa_nil))
      (pss_cons (ps_for PassesOwn.never rfl (pi_list (pv 1)) (pg_name (i := 5) sc_law_told.nd rfl (Or.inl rfl)) (pss_cons (ps_par (i := 9) (j := 10) (by rfl) sc_law_told.nd rfl rfl (by decide) rfl rfl (pa_cons (pe_c G_law_some hr (by decide) rfl (pa_cons (pv 0) (pa_cons (pv 2) pa_nil))) (pa_cons (pe_c G_law_choose hr (by decide) rfl (pa_cons (pv 0) (pa_cons (pv 2) pa_nil))) pa_nil)) (by rfl))
      (pss_cons (ps_if (PW.pt (pw_and (pt_cmpR (r := rIn K true) op_notIn_seq (pv 10) (pv 9) rfl) (pw_and1 (pt_cmpR op_gt (pe_c G_law_draw hr (by decide) rfl (pa_cons (pv 0) (pa_cons pe_int pa_nil))) pe_int (nomark _))))) (pss_one (ps_set (i := 9) sc_law_told.nd rfl (Or.inl rfl) (pe_op op_cat (pv 9) (pe_lst (pa_cons (pv 10) pa_nil))))) pss_nil)
      (pss_one (ps_expr (pe_bm F.plainAttrs_list F.slot_list_append F.type_list_append mt_append (pv 4) (pa_cons (pe_tup (pa_cons (pv 5) (pa_cons (pv 9) (pa_cons (pv 10) pa_nil)))) pa_nil)))))))
      (pss_cons (ps_par (i := 7) (j := 8) (by rfl) sc_law_told.nd rfl rfl (by decide) rfl rfl (pa_cons (pe_c G_law_some hr (by decide) rfl (pa_cons (pv 0) (pa_cons (pv 3) pa_nil))) (pa_cons (pe_c G_law_draw hr (by decide) rfl (pa_cons (pv 0) (pa_cons pe_int pa_nil))) pa_nil)) (by rfl))
      (pss_cons (ps_set (i := 6) sc_law_told.nd rfl (Or.inl rfl) (pe_ifExp (pt_cmpR op_gt (pe_c G_law_draw hr (by decide) rfl (pa_cons (pv 0) (pa_cons pe_int pa_nil))) pe_int (nomark _)) pe_non (pe_c G_law_some hr (by decide) rfl (pa_cons (pv 0) (pa_cons (pv 3) pa_nil)))))
      (pss_one (ps_ret (pe_tup (pa_cons (pv 4) (pa_cons (pv 7) (pa_cons (pv 8) (pa_cons (pv 6) pa_nil))))))))))), ?_⟩
    refine ⟨Nat.zero_le _, fun lr nlr => ?_⟩
    have stA := st.new (o := .lst []) nlr
    have sA := (SameB.refl p H).new (o := .lst []) nlr
    have lrp := st.ne nlr
    refine ⟨_, rfl, l1, rfl, ⟨_, SqL.of (sA _ _ e1 (st.neS e1))⟩, for_list (K := K) (a := l1) (xs := parts.map V.str) (fun i sg H' => ∃ v5 v6 v7 v8 v9 v10 : Option V, sg = [some (.ref p), some (.ref l1), some (.ref l2), some (.ref l3), some (.ref lr), v5, v6, v7, v8, v9, v10] ∧ ∃ rows : List Use, H' lr = some (.lst ((rows.map (·.t)).map V.ref)) ∧ rows.map (·.z) = parts.take i ∧ (∀ r ∈ rows, TRow H' r ∧ r.u ∈ keys ∧ r.ks.Nodup ∧ ∀ k ∈ r.ks, k ∈ keys) ∧ StA H' p ∧ SameB p H H')
      ⟨_, _, _, _, _, _, rfl, [], upd_same, rfl, (fun _ h => nomatch h), stA, sA⟩ (fun i sg H' _ ⟨_, _, _, _, _, _, _, _, _, _, _, _, s⟩ => SqL.of (s _ _ e1 (st.neS e1))) ?_ ?_⟩
    · rintro i x sg H' hx ⟨v5, v6, v7, v8, v9, v10, rfl, rows, elr, zs, rok, st', s'⟩
      obtain ⟨z, ez, rfl⟩ := str_at hx
      have k2 := s' _ _ e2 (st.neS e2)
      refine ⟨_, rfl, _, rfl, use_some st' k2 (by omega) fun la us Ha nla sub ela sta sa => ?_⟩
      have k3 := sa _ _ k2 (st'.neS k2)
      refine ⟨_, rfl, _, rfl, use_choose sta (SqL.of k3) (sta.neS k3) (by rw [List.length_map]; exact nk) (by rw [List.length_map]; omega) fun v Hb hv stb sb => ⟨_, _, rfl, ?_⟩⟩
      obtain ⟨u, hu, rfl⟩ := str_mem hv
      have sab := sa.trans sb
      have elb := sb _ _ ela (sta.neS ela)
      have lr2 := sab _ _ elr (st'.no elr refs_no)
      have nd := knd.sublist sub
      have len : us.length ≤ 50 := Nat.le_trans sub.length_le k50
      have tk : parts.take (i + 1) = parts.take i ++ [z] := by rw [List.take_succ, ez]; rfl
      have rl : rows.length ≤ 3 := by
        have l := congrArg List.length zs
        rw [List.length_map, List.length_take] at l
        omega
      -- the row is put behind the others
      have fin : ∀ (l9 : Addr) (us' : List Str) (Hc : Hp), Hc l9 = some (.lst (us'.map V.str)) → l9 ≠ lr → us'.Nodup → (∀ k ∈ us', k ∈ keys) → StA Hc p → SameB p H' Hc →
          ∀ t, Hc t = none → ∃ rows2 : List Use, upd (upd Hc t (.tup [.str z, .ref l9, .str u])) lr (.lst ((rows.map (·.t)).map V.ref ++ [.ref t])) lr = some (.lst ((rows2.map (·.t)).map V.ref)) ∧ rows2.map (·.z) = parts.take (i + 1) ∧
            (∀ r ∈ rows2, TRow (upd (upd Hc t (.tup [.str z, .ref l9, .str u])) lr (.lst ((rows.map (·.t)).map V.ref ++ [.ref t]))) r ∧ r.u ∈ keys ∧ r.ks.Nodup ∧ ∀ k ∈ r.ks, k ∈ keys) ∧ StA (upd (upd Hc t (.tup [.str z, .ref l9, .str u])) lr (.lst ((rows.map (·.t)).map V.ref ++ [.ref t]))) p ∧
            SameB p H (upd (upd Hc t (.tup [.str z, .ref l9, .str u])) lr (.lst ((rows.map (·.t)).map V.ref ++ [.ref t]))) := by
        intro l9 us' Hc e9 n9 nd' in' stc sc t nt
        have lrc := sc _ _ elr (st'.no elr refs_no)
        have tp := stc.ne nt
        have tlr : t ≠ lr := fun e => by rw [e, lrc] at nt; cases nt
        have stay : ∀ q o, Hc q = some o → q ≠ lr → upd (upd Hc t (.tup [.str z, .ref l9, .str u])) lr (.lst ((rows.map (·.t)).map V.ref ++ [.ref t])) q = some o := fun q o e n => by
          rw [upd_ne n, upd_ne (ne_of_none e nt)]; exact e
        have nlr' : ∀ {q : Addr} {ws : List Str}, Hc q = some (.lst (ws.map V.str)) → (q = lr → rows = []) := fun {q ws} e h => by
          rw [h, lrc] at e
          injection e with e; injection e with e
          cases rows with
          | nil => rfl
          | cons a b =>
            cases ws with
            | nil => cases e
            | cons c d => injection e with e1 e2; cases e1
        refine ⟨rows ++ [⟨z, t, l9, us', u⟩], by rw [upd_same, List.map_append, List.map_append]; rfl, by rw [List.map_append, zs, tk]; rfl, fun r hr => ?_, ?_, fun q o e n => ?_⟩
        · rcases List.mem_append.mp hr with hr | hr
          · obtain ⟨R, r2⟩ := rok r hr
            have R2 := R.keep st' sc
            refine ⟨⟨stay _ _ R2.tp fun e => ?_, stay _ _ R2.ls fun e => ?_⟩, r2⟩
            · have := R2.tp; rw [e, lrc] at this; cases this
            · have := nlr' R2.ls e
              rw [this] at hr; cases hr
          · obtain rfl := List.mem_singleton.mp hr
            exact ⟨⟨by rw [upd_ne tlr, upd_same], stay _ _ e9 n9⟩, hu, nd', in'⟩
        · obtain ⟨a, b, e, h⟩ := stc
          exact ⟨a, b, stay _ _ e lrp.symm, h⟩
        · refine stay _ _ (sc _ _ (s' _ _ e n) n) fun eq => ?_
          rw [eq, nlr] at e; cases e
      refine ⟨_, rfl, _, rfl, ask_notInS (SqL.of elb) ⟨_, rfl, ?_⟩⟩
      by_cases c : u ∈ us
      · rw [decide_eq_true c]
        refine iteF (iteF ?_)
        exact ⟨_, rfl, .inl ⟨rfl, _, .inl (.inl lr2)⟩, _, rfl, _, rfl, _, rfl, by show 3 ≤ sizeLine; decide, fun t nt => ⟨lr, _, _, rfl, rfl, by rw [upd_ne (ne_of_none lr2 nt)]; exact lr2, by rw [List.length_map, List.length_map, sizeLine_eq]; omega, _, _, _, _, _, _, rfl, fin la us Hb elb (ne_of_none elr nla).symm nd (fun k hk => sub.subset hk) stb sab t nt⟩⟩
      · rw [decide_eq_false c]
        refine iteT ⟨_, rfl, use_draw stb (by decide) (by decide) fun v Hc v0 v1 stc sc => ⟨_, _, rfl, rfl, _, rfl, ?_⟩⟩
        have elc := sc _ _ elb (stb.neS elb)
        have lr3 := sc _ _ lr2 (stb.no lr2 refs_no)
        have sac := sab.trans sc
        by_cases c2 : 0 < v
        · rw [decide_eq_true c2]
          refine iteT ⟨_, rfl, _, rfl, by show 1 ≤ sizeLine; decide, fun l6 n6 => ⟨la, l6, _, _, rfl, rfl, by rw [upd_ne (ne_of_none elc n6)]; exact elc, upd_same, by rw [List.length_map, sizeLine_eq]; show us.length + 1 ≤ _; omega, fun l7 n7 => ?_⟩⟩
          have s7 := same_new' (same_new (o := .lst [V.str u]) n6) (o := .lst (us.map V.str ++ [V.str u])) n7
          have e7 : upd (upd Hc l6 (.lst [V.str u])) l7 (.lst (us.map V.str ++ [V.str u])) l7 = some (.lst ((us ++ [u]).map V.str)) := by rw [upd_same, List.map_append]; rfl
          have n7c : l7 ≠ lr := fun e => by
            rw [e, upd_ne (ne_of_none lr3 n6), lr3] at n7; cases n7
          generalize upd (upd Hc l6 (.lst [V.str u])) l7 (.lst (us.map V.str ++ [V.str u])) = Hd at *
          have lr4 := s7 _ _ lr3
          have nd2 : (us ++ [u]).Nodup := by
            rw [List.nodup_append]
            exact ⟨nd, by simp, fun a ha b hb => by rw [List.mem_singleton.mp hb]; exact fun e => c (e ▸ ha)⟩
          exact ⟨_, rfl, .inl ⟨rfl, _, .inl (.inl lr4)⟩, _, rfl, _, rfl, _, rfl, by show 3 ≤ sizeLine; decide, fun t nt => ⟨lr, _, _, rfl, rfl, by rw [upd_ne (ne_of_none lr4 nt)]; exact lr4, by rw [List.length_map, List.length_map, sizeLine_eq]; omega, _, _, _, _, _, _, rfl, fin l7 (us ++ [u]) Hd e7 n7c nd2 (fun k hk => (List.mem_append.mp hk).elim (fun h => sub.subset h) fun h => by rw [List.mem_singleton.mp h]; exact hu) (stc.keep s7) (sac.trans (.of s7)) t nt⟩⟩
        · rw [decide_eq_false c2]
          refine iteF ?_
          exact ⟨_, rfl, .inl ⟨rfl, _, .inl (.inl lr3)⟩, _, rfl, _, rfl, _, rfl, by show 3 ≤ sizeLine; decide, fun t nt => ⟨lr, _, _, rfl, rfl, by rw [upd_ne (ne_of_none lr3 nt)]; exact lr3, by rw [List.length_map, List.length_map, sizeLine_eq]; omega, _, _, _, _, _, _, rfl, fin la us Hc elc (ne_of_none elr nla).symm nd (fun k hk => sub.subset hk) stc sac t nt⟩⟩
    · rintro sg H' ⟨v5, v6, v7, v8, v9, v10, rfl, rows, elr, zs, rok, st', s'⟩
      rw [List.length_map, List.take_length] at zs
      have h3 := s' _ _ e3 (st.neS e3)
      refine ⟨_, rfl, _, rfl, use_some st' h3 (by omega) fun lv vo Ha nlv subv elv sta sa => ?_⟩
      refine ⟨_, rfl, use_draw sta (by decide) (by decide) fun le Hb l0 l3' stb sb => ⟨_, _, rfl, ?_⟩⟩
      refine ⟨_, rfl, use_draw stb (by decide) (by decide) fun y Hc y0 y1 stc sc => ⟨_, _, rfl, rfl, _, rfl, ?_⟩⟩
      have sac := sa.trans (sb.trans sc)
      have sHc := s'.trans sac
      have lr3 := sac _ _ elr (st'.no elr refs_no)
      have lv3 := (sb.trans sc) _ _ elv (sta.neS elv)
      have rok3 : ∀ r ∈ rows, TRow Hc r ∧ r.u ∈ keys ∧ r.ks.Nodup ∧ ∀ k ∈ r.ks, k ∈ keys := fun r hr => ⟨(rok r hr).1.keep st' sac, (rok r hr).2⟩
      -- the end
      have fin : ∀ (Hd : Hp) (sv : V) (sg : Option (List Str)), SgAt Hd sv sg → (∀ ks, sg = some ks → ks.Sublist hands) → StA Hd p → SameB p Hc Hd → ∀ t, Hd t = none → Q (.ref t) (upd Hd t (.tup [.ref lr, .ref lv, .int le, sv])) := by
        intro Hd sv sgo sat sub std sd t nt
        have sHd := sHc.trans sd
        have tp := std.ne nt
        have sn := same_new (o := .tup [.ref lr, .ref lv, .int le, sv]) nt
        refine k t ⟨rows, vo, le, sgo⟩ _ ⟨zs, fun r hr => (rok3 r hr).2, subv, ⟨l0, l3'⟩, sub⟩ (sHd.free nt tp) ⟨⟨lr, lv, sv, upd_same, sn _ _ (sd _ _ lr3 (stc.no lr3 refs_no)), sn _ _ (sd _ _ lv3 (stc.neS lv3)), ?_⟩, fun r hr => ?_⟩ (std.new nt) (sHd.new nt)
        · cases sgo with
          | none => exact sat
          | some ks =>
            obtain ⟨l, e, h⟩ := sat
            exact ⟨l, e, sn _ _ h⟩
        · have R := (rok3 r hr).1.keep stc sd
          exact ⟨sn _ _ R.tp, sn _ _ R.ls⟩
      by_cases c : 0 < y
      · rw [decide_eq_true c]
        refine iteT ⟨_, rfl, _, rfl, _, rfl, _, rfl, by show 4 ≤ sizeLine; decide, fun t nt => fin Hc .non none rfl (fun _ h => nomatch h) stc (SameB.refl _ _) t nt⟩
      · rw [decide_eq_false c]
        have h4 := sac _ _ h3 (st'.neS h3)
        refine iteF ⟨_, rfl, _, rfl, use_some stc h4 (by omega) fun ls sk Hd nls subs els std sd => ⟨_, rfl, _, rfl, _, rfl, _, rfl, by show 4 ≤ sizeLine; decide, fun t nt => fin Hd (.ref ls) (some sk) ⟨ls, rfl, els⟩ (fun ks h => by cases h; exact subs) std sd t nt⟩⟩
end
end K54C
namespace K54C
open PySem PySem.Spec PyProof.Rows L2 Jg
local macro_rules | `(tactic| walk_at "rd1") => `(tactic| (first
  | refine ⟨_, rfl, ?_⟩
  | refine ⟨_, _, rfl, rfl, ?_⟩
  | refine ⟨_, _, rfl, ?_⟩
  | refine ⟨rfl, ?_⟩
  | (refine ⟨show (0 : Int) < _ by omega, ?_⟩)
  | (refine ⟨Or.inl ⟨by omega, by omega⟩, ?_⟩)
  | (refine ⟨Or.inr ⟨by omega, by omega⟩, ?_⟩)
  | (refine ⟨(⟨by decide, by decide, by decide⟩ : CPow _ _), ?_⟩)
  | refine Or.inl ⟨_, rfl, ?_⟩
  | refine Or.inr ⟨_, rfl, ?_⟩
  | fail "rd"))
local macro_rules | `(tactic| walk_at "rd") => `(tactic| repeat' walk_at "rd1")
/-! ### contents that are taken -/
def takesB (c e : Ct) : Bool := decide (c.ne ≤ ((e.si.filter fun k => decide (k ∈ c.vo)).length : Int))
def spTakes (C : Addr) : Sp := fun vs H Q _ => ∃ x y c e S S', vs = [.ref x, .ref y] ∧ CAt S C H x c ∧ CAt S' C H y e ∧ e.si.length ≤ 500 ∧ ∀ H', Same H H' → Q (.bl (takesB c e)) H'
theorem flat_strs {ks : List Str} : (ks.map V.str).all flatV = true := List.all_eq_true.mpr fun x hx => by
  obtain ⟨k, _, rfl⟩ := List.mem_map.mp hx
  rfl
theorem fil_take {ks : List Str} {i : Nat} {z : Str} (hz : ks[i]? = some z) (p : Str → Bool) : (ks.take (i + 1)).filter p = (ks.take i).filter p ++ (if p z = true then [z] else []) := by
  have tk : ks.take (i + 1) = ks.take i ++ [z] := by rw [List.take_succ, hz]; rfl
  rw [tk, List.filter_append]
  congr 1
  rw [List.filter_cons, List.filter_nil]
theorem fil_few {ks : List Str} {i : Nat} (p : Str → Bool) (few : ks.length ≤ 500) : ((((ks.take i).filter p).map V.str)).length < sizeLine := by
  rw [List.length_map, sizeLine_eq]
  have h1 := List.length_filter_le p (ks.take i)
  rw [List.length_take] at h1
  omega
section
variable {P : Program} {w : World} {K : PySem.W.Frag} {mg : Str → Option Value} {base : Heap} {C CI CU CK : Addr}
abbrev s_Contents_takes : Stmt := inClass (top 33) 10
theorem sc_Contents_takes : FnScope ["self", "other", "known", "key"] ["self", "other"] (defScope s_Contents_takes) := ⟨rfl, rfl, rfl, by decide +kernel, rfl, by decide +kernel, by decide +kernel⟩
theorem ok_ctakes (D : MetK K C "takes" "Contents.takes" s_Contents_takes) (T : Txt K mg) (J : CTx K mg C) : Met P w K mg base CX0 1 C "takes" (spTakes C) := by
  refine D.met sc_Contents_takes (fun _ _ _ _ _ _ us hl => match us, hl with | [_, _], _ => rfl) (fun vs H Q E h => ?_) fun f cdv A outer s H vs Q E hr h => ?_
  · obtain ⟨x, y, c, e, S, S', rfl, _⟩ := h; rfl
  · obtain ⟨x, y, c, e, S, S', rfl, ac, ae, few, k⟩ := h
    refine ⟨_, (pss_cons (ps_setLc (i := 2) (own := [("key", 3)]) (g := gName 3) (by rfl) sc_Contents_takes.nd rfl rfl (sw_true rfl rfl rfl (by decide +kernel)) (pi_list (pe_fld (pv 1) rfl)) (blkOk_by (own := [("key", 3)]) (N := ["self", "other", "known", "key"]) (sc := defScope s_Contents_takes) (by decide +kernel)) (fun _ _ _ _ _ => pg_name (i := 3) sc_Contents_takes.nd rfl (Or.inl rfl)) (fun _ _ _ _ _ => (pts_one (pt_cmpR (r := rIn K false) op_in_seq (pv 3) (show PE _ _ (tFld K (tVar 0) "_vouchers") from pe_fld (pv 0) rfl) rfl))) (fun _ _ _ _ _ => (pv 3)))
      (pss_one (ps_ret (pe_cmpR op_ge (pe_callB call_len_seq (by rfl) T.b_len (by decide +kernel) (pa_cons (pv 2) pa_nil)) (pe_fld (pv 0) rfl) (nomark _))))), ?_⟩
    obtain ⟨⟨dx, d, v, sg, e1, e2, e3, e4, _⟩, us⟩ := id ac
    obtain ⟨⟨dx', d', v', sg', f1, f2, f3, f4, _⟩, us'⟩ := id ae
    refine ⟨_, rfl, y, C, dx', _, _, rfl, f1, J.cl, J.ns, get_s _ _ _ _, sg', rfl, ⟨_, SqL.of f4⟩, fun D nD => ?_⟩
    have sq : ∀ {l : Addr} {xs : List V} {o : HO}, SqL K H l xs → SqL K (upd H D o) l xs := fun h => (same_new nD).seq h
    refine lc_list (K := K) (a := sg') (xs := e.si.map V.str) (fun i H' => H' = upd H D (.lst (((e.si.take i).filter fun k => decide (k ∈ c.vo)).map V.str))) rfl (fun _ H' _ z => by rw [z]; exact sq (SqL.of f4)) ?_ ?_
    · rintro i x' H' hx rfl
      obtain ⟨z, hz, rfl⟩ := str_at hx
      refine ⟨rfl, ?_⟩
      refine ⟨_, rfl, _, rfl, x, C, dx, _, _, rfl, same_new nD _ _ e1, J.cl, J.nv, get_v _ _ _ _, v, _, rfl, .inl (sq (SqL.of e3)), rfl, flat_strs, _, rfl, ?_⟩
      show if inV (V.str z) (c.vo.map V.str) = true then _ else _
      rw [inV_strs]
      by_cases cc : z ∈ c.vo
      · rw [decide_eq_true cc]
        refine iteT ⟨_, rfl, _, upd_same, fil_few _ few, ?_⟩
        rw [upd_upd, fil_take hz, decide_eq_true cc, List.map_append]; rfl
      · rw [decide_eq_false cc]
        refine iteF ?_
        rw [fil_take hz, decide_eq_false cc]
        show _ = upd H D (.lst ((((e.si.take i).filter fun k => decide (k ∈ c.vo)) ++ []).map V.str))
        rw [List.append_nil]
    · intro H' eH
      rw [List.length_map, List.take_length] at eH
      subst eH
      have q := k _ (same_new (o := .lst ((e.si.filter fun k => decide (k ∈ c.vo)).map V.str)) nD)
      unfold takesB at q
      rw [← List.length_map (as := e.si.filter fun k => decide (k ∈ c.vo)) V.str] at q
      exact ⟨_, rfl, D, _, rfl, .inl (SqL.of upd_same), _, rfl, x, C, dx, _, _, rfl, same_new nD _ _ e1, J.cl, J.nn, get_n _ _ _ _, _, _, rfl, rfl, q⟩
end
end K54C
namespace K54C
open PySem PySem.Spec PyProof.Rows L2 Jg
local macro_rules | `(tactic| walk_at "rd1") => `(tactic| (first
  | refine ⟨_, rfl, ?_⟩
  | refine ⟨_, _, rfl, rfl, ?_⟩
  | refine ⟨_, _, rfl, ?_⟩
  | refine ⟨rfl, ?_⟩
  | (refine ⟨show (0 : Int) < _ by omega, ?_⟩)
  | (refine ⟨Or.inl ⟨by omega, by omega⟩, ?_⟩)
  | (refine ⟨Or.inr ⟨by omega, by omega⟩, ?_⟩)
  | (refine ⟨(⟨by decide, by decide, by decide⟩ : CPow _ _), ?_⟩)
  | refine Or.inl ⟨_, rfl, ?_⟩
  | refine Or.inr ⟨_, rfl, ?_⟩
  | fail "rd"))
local macro_rules | `(tactic| walk_at "rd") => `(tactic| repeat' walk_at "rd1")
/-! ### what is told, and told on -/
def turnL (ks : List Str) (z : Str) : List Str := if z ∈ ks then ks.filter (fun k => !decide (k = z)) else ks ++ [z]
structure Sb (hs ks : List Str) : Prop where
  nd : ks.Nodup
  sub : ∀ k ∈ ks, k ∈ hs
theorem nd_len : ∀ {ks hs : List Str}, ks.Nodup → (∀ k ∈ ks, k ∈ hs) → ks.length ≤ hs.length
  | [], _, _, _ => Nat.zero_le _
  | k :: r, hs, nd, sub => by
    rw [List.nodup_cons] at nd
    have h1 := sub k List.mem_cons_self
    have h2 : ∀ x ∈ r, x ∈ hs.erase k := fun x hx => (List.mem_erase_of_ne (fun e => nd.1 (by rw [← e]; exact hx))).mpr (sub x (List.mem_cons_of_mem _ hx))
    have h3 := nd_len nd.2 h2
    rw [List.length_erase_of_mem h1] at h3
    have h4 := List.length_pos_of_mem h1
    rw [List.length_cons]; omega
theorem Sb.len {hs ks : List Str} (h : Sb hs ks) : ks.length ≤ hs.length := nd_len h.nd h.sub
theorem Sb.turn {hs ks : List Str} {z : Str} (h : Sb hs ks) (hz : z ∈ hs) : Sb hs (turnL ks z) := by
  unfold turnL
  by_cases c : z ∈ ks
  · rw [if_pos c]
    exact ⟨h.nd.sublist List.filter_sublist, fun k hk => h.sub k (List.mem_filter.mp hk).1⟩
  · rw [if_neg c]
    refine ⟨List.nodup_append.mpr ⟨h.nd, by simp, fun a ha b hb e => c (by rw [← List.mem_singleton.mp hb, ← e]; exact ha)⟩, fun k hk => ?_⟩
    rcases List.mem_append.mp hk with hk | hk
    · exact h.sub k hk
    · rw [List.mem_singleton.mp hk]; exact hz
structure TdG (parts keys hands : List Str) (d : Td) : Prop where
  zs : d.rows.map (·.z) = parts
  rows : ∀ r ∈ d.rows, r.u ∈ keys ∧ Sb keys r.ks
  vo : Sb hands d.vo
  le : 0 ≤ d.le ∧ d.le ≤ 4
  sg : ∀ ks, d.sg = some ks → Sb hands ks
theorem TdOk.g {parts keys hands : List Str} {d : Td} (h : TdOk parts keys hands d) (hn : hands.Nodup) : TdG parts keys hands d :=
  ⟨h.zs, fun r hr => ⟨(h.rows r hr).1, (h.rows r hr).2.1, (h.rows r hr).2.2⟩, ⟨hn.sublist h.vo, fun k hk => h.vo.subset hk⟩, ⟨h.le.1, by have := h.le.2; omega⟩, fun ks e => ⟨hn.sublist (h.sg ks e), fun k hk => (h.sg ks e).subset hk⟩⟩
@[irreducible] def spTurned (K : PySem.W.Frag) : Sp := fun vs H Q _ => ∃ (l : Addr) (z : Str) (ks : List Str), vs = [.ref l, .str z] ∧ H l = some (.lst (ks.map V.str)) ∧ ks.length ≤ 100 ∧ ∀ p H', H p = none → Same H H' → H' p = some (.lst ((turnL ks z).map V.str)) → Q (.ref p) H'
theorem use_turned {K : PySem.W.Frag} {H : Hp} {l : Addr} {z : Str} {ks : List Str} {Q : VK} {E : XK} (el : H l = some (.lst (ks.map V.str))) (few : ks.length ≤ 100) (k : ∀ p H', H p = none → Same H H' → H' p = some (.lst ((turnL ks z).map V.str)) → Q (.ref p) H') : spTurned K [.ref l, .str z] H Q E := by
  unfold spTurned
  exact ⟨l, z, ks, rfl, el, few, k⟩
theorem cut_low {xs : List V} (n : Nat) (h : n ≤ xs.length) : cutV xs none (some (n : Int)) = xs.take n := by
  unfold cutV
  rw [HT.sIx_none, HT.sIx_nat, List.drop_zero, Nat.min_eq_left h, Nat.sub_zero]
theorem cut_high {xs : List V} (n : Nat) (h : n ≤ xs.length) : cutV xs (some (n : Int)) none = xs.drop n := by
  unfold cutV
  rw [HT.sIx_none, HT.sIx_nat, Nat.min_eq_left h]
  exact List.take_of_length_le (by rw [List.length_drop]; exact Nat.le_refl _)
@[irreducible] def spNext (K : PySem.W.Frag) : Sp := fun vs H Q _ => ∃ (p q l2 l3 : Addr) (d : Td) (parts keys hands : List Str), vs = [.ref p, .ref q, .ref l2, .ref l3] ∧ StA H p ∧ TdAt H q d ∧ TdG parts keys hands d ∧ H l2 = some (.lst (keys.map V.str)) ∧ H l3 = some (.lst (hands.map V.str)) ∧
  0 < parts.length ∧ parts.length ≤ 3 ∧ 0 < keys.length ∧ keys.length ≤ 50 ∧ 0 < hands.length ∧ hands.length ≤ 50 ∧ hands.Nodup ∧ ∀ q' d' H', TdG parts keys hands d' → H q' = none → TdAt H' q' d' → StA H' p → SameB p H H' → Q (.ref q') H'
section
variable {P : Program} {w : World} {K : PySem.W.Frag} {mg : Str → Option Value} {base : Heap}
abbrev s_law_turned : Stmt := top 95
theorem sc_law_turned : FnScope ["items", "item", "one"] ["items", "item"] (defScope s_law_turned) := ⟨rfl, rfl, rfl, by decide +kernel, rfl, by decide +kernel, by decide +kernel⟩
theorem ok_turned (D : DefK K mg "_law_turned" s_law_turned) : Cal P w K mg base CX0 1 "_law_turned" (spTurned K) := by
  unfold spTurned
  refine D.cal sc_law_turned (fun _ _ _ _ _ _ us hl => match us, hl with | [_, _], _ => rfl) (fun vs H Q E h => ?_) fun f cdv A outer s H vs Q E hr h => ?_
  · obtain ⟨l, z, ks, rfl, _⟩ := h; rfl
  · obtain ⟨l, z, ks, rfl, el, few, k⟩ := h
    refine ⟨_, (pss_one (ps_ret (pe_ifExp (pt_cmpR (r := rIn K false) op_in_seq (pv 1) (pv 0) rfl) (pe_lc (own := [("one", 2)]) (g := gName 2) (by rfl) sc_law_turned.nd (pi_list (pv 0)) (blkOk_by (own := [("one", 2)]) (N := ["items", "item", "one"]) (sc := defScope s_law_turned) (by decide +kernel)) (fun _ _ _ _ _ => pg_name (i := 2) sc_law_turned.nd rfl (Or.inl rfl)) (fun _ _ _ _ _ => (pts_one (pt_cmpR op_ne (pv 2) (pv 1) (nomark _)))) (fun _ _ _ _ _ => (pv 2))) (pe_op op_cat (pv 0) (pe_lst (pa_cons (pv 1) pa_nil)))))), ?_⟩
    refine ⟨_, rfl, _, rfl, l, _, rfl, .inl (SqL.of el), rfl, flat_strs, _, rfl, ?_⟩
    show if inV (V.str z) (ks.map V.str) = true then _ else _
    rw [inV_strs]
    unfold turnL at k
    by_cases c : z ∈ ks
    · rw [if_pos c] at k
      rw [decide_eq_true c]
      refine iteT ⟨_, rfl, l, rfl, ⟨_, SqL.of el⟩, fun D nD => ?_⟩
      refine lc_list (K := K) (a := l) (xs := ks.map V.str) (fun i H' => H' = upd H D (.lst (((ks.take i).filter fun k => !decide (k = z)).map V.str))) rfl (fun _ H' _ e => by rw [e]; exact SqL.of (same_new nD _ _ el)) ?_ ?_
      · rintro i x H' hx rfl
        obtain ⟨y, hy, rfl⟩ := str_at hx
        refine ⟨rfl, ⟨_, rfl, _, rfl, rfl, _, rfl, ?_⟩⟩
        by_cases c2 : y = z
        · rw [c2, decide_eq_true rfl]
          refine iteF ?_
          rw [c2] at hy
          rw [fil_take hy, decide_eq_true rfl]
          show _ = upd H D (.lst ((((ks.take i).filter fun k => !decide (k = z)) ++ []).map V.str))
          rw [List.append_nil]
        · rw [decide_eq_false (fun e => c2 (V.str.inj e))]
          refine iteT ⟨_, rfl, _, upd_same, fil_few _ (by omega), ?_⟩
          rw [upd_upd, fil_take hy, decide_eq_false c2, List.map_append]; rfl
      · intro H' e
        rw [List.length_map, List.take_length] at e
        rw [e]
        exact k D _ nD (same_new nD) upd_same
    · rw [if_neg c] at k
      rw [decide_eq_false c]
      refine iteF ⟨_, rfl, _, rfl, by show 1 ≤ sizeLine; decide, fun b nb => ?_⟩
      refine ⟨l, b, ks.map V.str, [.str z], rfl, rfl, same_new nb _ _ el, upd_same, by rw [List.length_map, sizeLine_eq]; show ks.length + 1 ≤ _; omega, fun p np => ?_⟩
      have s1 := same_new' (o := .lst (ks.map V.str ++ [.str z])) (same_new (o := .lst [.str z]) nb) np
      exact k p _ ((same_new nb).free np) s1 (by rw [upd_same, List.map_append]; rfl)
abbrev s_law_next : Stmt := top 96
theorem sc_law_next : FnScope ["stream", "told", "keys", "hands", "rows", "vouch", "least", "signing", "at", "way", "part", "likes", "own"] ["stream", "told", "keys", "hands"] (defScope s_law_next) := ⟨rfl, rfl, rfl, by decide +kernel, rfl, by decide +kernel, by decide +kernel⟩
theorem ok_next (D : DefK K mg "_law_next" s_law_next) (T : Txt K mg) (G_law_draw : Cal P w K mg base CX0 1 "_law_draw" spDr) (G_law_choose : Cal P w K mg base CX0 2 "_law_choose" (spCh K)) (G_law_some : Cal P w K mg base CX0 2 "_law_some" (spSome K)) (G_law_turned : Cal P w K mg base CX0 1 "_law_turned" (spTurned K)) : Cal P w K mg base CX0 3 "_law_next" (spNext K) := by
  unfold spNext
  refine D.cal sc_law_next (fun _ _ _ _ _ _ us hl => match us, hl with | [_, _, _, _], _ => rfl) (fun vs H Q E h => ?_) fun f cdv A outer s H vs Q E hr h => ?_
  · obtain ⟨p, q, l2, l3, d, parts, keys, hands, rfl, _⟩ := h; rfl
  · obtain ⟨p, q, l2, l3, d, parts, keys, hands, rfl, st, tda, tdg, ek, eh, p0, p3, k0, k5, h0, h5, hn, k⟩ := h
    refine ⟨_, (pss_cons (ps_asg (pv 1) (pg_tup rfl (pgs_cons (pg_name (i := 4) sc_law_next.nd rfl (Or.inl rfl)) (pgs_cons (pg_name (i := 5) sc_law_next.nd rfl (Or.inl rfl)) (pgs_cons (pg_name (i := 6) sc_law_next.nd rfl (Or.inl rfl)) (pgs_cons (pg_name (i := 7) sc_law_next.nd rfl (Or.inl rfl)) pgs_nil))))))
      (pss_cons (ps_par (i := 8) (j := 9) (by rfl) sc_law_next.nd rfl rfl (by decide) rfl rfl (pa_cons (pe_c G_law_draw hr (by decide) rfl (pa_cons (pv 0) (pa_cons (pe_callB call_len_seq (by rfl) T.b_len (by decide +kernel) (pa_cons (pv 4) pa_nil)) pa_nil))) (pa_cons (pe_c G_law_draw hr (by decide) rfl (pa_cons (pv 0) (pa_cons pe_int pa_nil))) pa_nil)) (by rfl))
      (pss_cons (ps_asg (pe_ix (r := rIxL K) ix_list (pv 4) (pv 8) (fun _ _ => rfl)) (pg_tup rfl (pgs_cons (pg_name (i := 10) sc_law_next.nd rfl (Or.inl rfl)) (pgs_cons (pg_name (i := 11) sc_law_next.nd rfl (Or.inl rfl)) (pgs_cons (pg_name (i := 12) sc_law_next.nd rfl (Or.inl rfl)) pgs_nil)))))
      (C8.pss_cut (ps_if (pt_cmpR op_lt (pv 9) pe_int (nomark _)) (pss_one (ps_set (i := 11) sc_law_next.nd rfl (Or.inl rfl) (pe_c G_law_turned hr (by decide) rfl (pa_cons (pv 11) (pa_cons (pe_c G_law_choose hr (by decide) rfl (pa_cons (pv 0) (pa_cons (pv 2) pa_nil))) pa_nil))))) (pss_one (ps_if (pt_cmpR op_lt (pv 9) pe_int (nomark _)) (pss_one (ps_set (i := 12) sc_law_next.nd rfl (Or.inl rfl) (pe_c G_law_choose hr (by decide) rfl (pa_cons (pv 0) (pa_cons (pe_slice sl_list (pe_op op_cat (pv 11) (pv 2)) po_none (po_some (pe_callB (call_max2 rfl) (by rfl) T.b_max (by decide +kernel) (pa_cons pe_int (pa_cons (pe_callB call_len_seq (by rfl) T.b_len (by decide +kernel) (pa_cons (pv 11) pa_nil)) pa_nil))))) pa_nil))))) (pss_one (ps_if (pt_cmpR op_eq (pv 9) pe_int (nomark _)) (pss_one (ps_set (i := 5) sc_law_next.nd rfl (Or.inl rfl) (pe_c G_law_turned hr (by decide) rfl (pa_cons (pv 5) (pa_cons (pe_c G_law_choose hr (by decide) rfl (pa_cons (pv 0) (pa_cons (pv 3) pa_nil))) pa_nil))))) (pss_one (ps_if (pt_cmpR op_eq (pv 9) pe_int (nomark _)) (pss_one (ps_set (i := 7) sc_law_next.nd rfl (Or.inl rfl) (pe_c G_law_some hr (by decide) rfl (pa_cons (pv 0) (pa_cons (pv 3) pa_nil))))) (pss_one (ps_set (i := 6) sc_law_next.nd rfl (Or.inl rfl) (pe_c G_law_draw hr (by decide) rfl (pa_cons (pv 0) (pa_cons pe_int pa_nil))))))))))))
      (pss_one (ps_ret (pe_tup (pa_cons (pe_op op_cat (pe_op op_cat (pe_slice sl_list (pv 4) po_none (po_some (pv 8))) (pe_lst (pa_cons (pe_tup (pa_cons (pv 10) (pa_cons (pv 11) (pa_cons (pv 12) pa_nil)))) pa_nil))) (pe_slice sl_list (pv 4) (po_some (pe_op op_add (pv 8) pe_int)) po_none)) (pa_cons (pv 5) (pa_cons (pv 6) (pa_cons (pv 7) pa_nil))))))))))), ?_⟩
    obtain ⟨⟨lr, lv, sv, e1, e2, e3, e4⟩, rs⟩ := id tda
    have rl : d.rows.length = parts.length := by rw [← tdg.zs, List.length_map]
    refine ⟨_, rfl, q, _, rfl, SqT.of e1, rfl, _, _, rfl, _, _, rfl, _, _, rfl, _, _, rfl, rfl, ?_⟩
    refine ⟨_, rfl, _, rfl, lr, _, rfl, .inl (SqL.of e2), use_draw st (by rw [List.length_map, List.length_map, rl]; omega) (by rw [List.length_map, List.length_map, rl]; omega) fun at_ H1 a0 a1 st1 s1 => ?_⟩
    rw [List.length_map, List.length_map, rl] at a1
    refine ⟨_, rfl, use_draw st1 (by decide) (by decide) fun way H2 w0 w1 st2 s2 => ⟨_, _, rfl, ?_⟩⟩
    have s02 := s1.trans s2
    have td2 := tda.keep st s02
    obtain ⟨n, rfl⟩ : ∃ n : Nat, at_ = (n : Int) := ⟨at_.toNat, by omega⟩
    have hn3 : n < d.rows.length := by omega
    have ern : d.rows[n]? = some (d.rows[n]'hn3) := List.getElem?_eq_getElem hn3
    generalize d.rows[n]'hn3 = r at ern
    have hr2 := List.mem_of_getElem? ern
    have er2 := s02 _ _ e2 (st.no e2 refs_no)
    have R2 := (rs r hr2).keep st s02
    obtain ⟨ru, rk⟩ := tdg.rows r hr2
    have rlen := rk.len
    have vlen := tdg.vo.len
    refine ⟨_, rfl, _, rfl, lr, _, _, .ref r.t, rfl, rfl, SqL.of er2, atI_nat (by rw [List.getElem?_map, List.getElem?_map, ern]; rfl), r.t, _, rfl, SqT.of R2.tp, rfl, _, _, rfl, _, _, rfl, _, _, rfl, rfl, ?_⟩
    have ek2 := s02 _ _ ek (st.neS ek)
    have eh2 := s02 _ _ eh (st.neS eh)
    have ev2 := s02 _ _ e3 (st.neS e3)
    have sg2 := e4.keep st s02
    refine ⟨fun σ' H' => ∃ (la lv' : Addr) (ks vo : List Str) (u : Str) (le : Int) (sv' : V) (sg : Option (List Str)), σ' = [some (.ref p), some (.ref q), some (.ref l2), some (.ref l3), some (.ref lr), some (.ref lv'), some (.int le), some sv', some (.int n), some (.int way), some (.str r.z), some (.ref la), some (.str u)] ∧ StA H' p ∧ SameB p H H' ∧ H' la = some (.lst (ks.map V.str)) ∧ Sb keys ks ∧ u ∈ keys ∧ H' lv' = some (.lst (vo.map V.str)) ∧ Sb hands vo ∧ 0 ≤ le ∧ le ≤ 4 ∧ SgAt H' sv' sg ∧ ∀ ks, sg = some ks → Sb hands ks, ?_, ?_⟩
    · refine ⟨_, rfl, _, _, rfl, rfl, _, rfl, ?_⟩
      by_cases c1 : way < 3
      · refine iteTe (decide_eq_true c1) ⟨_, rfl, _, rfl, _, rfl, use_choose st2 (SqL.of ek2) (st2.neS ek2) (by rw [List.length_map]; exact k0) (by rw [List.length_map]; omega) fun v H3 hv st3 s3 => ?_⟩
        obtain ⟨z, hz, rfl⟩ := str_mem hv
        refine use_turned (s3 _ _ R2.ls (st2.neS R2.ls)) (by omega) fun la H4 nla s4 e4' => ⟨la, lv, turnL r.ks z, d.vo, r.u, d.le, sv, d.sg, rfl, st3.keep s4, s02.trans (s3.trans (SameB.of s4)), e4', rk.turn hz, ru, s4 _ _ (s3 _ _ ev2 (st2.neS ev2)), tdg.vo, tdg.le.1, tdg.le.2, sg2.keep st2 (s3.trans (SameB.of s4)), tdg.sg⟩
      refine iteFe (decide_eq_false c1) ⟨_, rfl, _, _, rfl, rfl, _, rfl, ?_⟩
      by_cases c2 : way < 5
      · refine iteTe (decide_eq_true c2) ⟨_, rfl, _, rfl, _, rfl, r.a, l2, _, _, rfl, rfl, R2.ls, ek2, by rw [List.length_map, List.length_map, sizeLine_eq]; omega, fun pc npc => ?_⟩
        have sc := same_new (o := .lst (r.ks.map V.str ++ keys.map V.str)) npc
        refine ⟨_, rfl, r.a, _, rfl, .inl (SqL.of (sc _ _ R2.ls)), _, _, rfl, _, rfl, pc, _, rfl, SqL.of upd_same, fun ps nps => ?_⟩
        have em : (if ((r.ks.map V.str).length : Int) > 1 then ((r.ks.map V.str).length : Int) else 1) = ((max 1 r.ks.length : Nat) : Int) := by
          rw [List.length_map]; split <;> omega
        rw [em, ← List.map_append, cut_low _ (by rw [List.length_map, List.length_append]; omega)]
        have sp_ := same_new' (o := .lst (((r.ks ++ keys).map V.str).take (max 1 r.ks.length))) sc nps
        rw [← List.map_append] at sp_
        refine use_choose (st2.keep sp_) (SqL.of upd_same) ((st2.keep sc).ne nps) (by rw [List.length_take, List.length_map, List.length_append]; omega) (by rw [List.length_take, List.length_map, List.length_append]; omega) fun v H3 hv st3 s3 => ?_
        obtain ⟨z, hz, rfl⟩ := str_mem (List.mem_of_mem_take hv)
        have zk : z ∈ keys := (List.mem_append.mp hz).elim (rk.sub z) id
        have s23 := (SameB.of (p := p) sp_).trans s3
        exact ⟨r.a, lv, r.ks, d.vo, z, d.le, sv, d.sg, rfl, st3, s02.trans s23, s23 _ _ R2.ls (st2.neS R2.ls), rk, zk, s23 _ _ ev2 (st2.neS ev2), tdg.vo, tdg.le.1, tdg.le.2, sg2.keep st2 s23, tdg.sg⟩
      refine iteFe (decide_eq_false c2) ⟨_, rfl, rfl, _, rfl, ?_⟩
      by_cases c3 : way = 5
      · refine iteTe (decide_eq_true (by rw [c3])) ⟨_, rfl, _, rfl, _, rfl, use_choose st2 (SqL.of eh2) (st2.neS eh2) (by rw [List.length_map]; exact h0) (by rw [List.length_map]; omega) fun v H3 hv st3 s3 => ?_⟩
        obtain ⟨z, hz, rfl⟩ := str_mem hv
        refine use_turned (s3 _ _ ev2 (st2.neS ev2)) (by omega) fun la H4 nla s4 e4' => ⟨r.a, la, r.ks, turnL d.vo z, r.u, d.le, sv, d.sg, rfl, st3.keep s4, s02.trans (s3.trans (SameB.of s4)), s4 _ _ (s3 _ _ R2.ls (st2.neS R2.ls)), rk, ru, e4', tdg.vo.turn hz, tdg.le.1, tdg.le.2, sg2.keep st2 (s3.trans (SameB.of s4)), tdg.sg⟩
      refine iteFe (decide_eq_false (fun e => c3 (V.int.inj e))) ⟨_, rfl, rfl, _, rfl, ?_⟩
      by_cases c4 : way = 6
      · refine iteTe (decide_eq_true (by rw [c4])) ⟨_, rfl, _, rfl, use_some st2 eh2 (by omega) fun D us H3 nD sub e3' st3 s3 => ⟨r.a, lv, r.ks, d.vo, r.u, d.le, .ref D, some us, rfl, st3, s02.trans s3, s3 _ _ R2.ls (st2.neS R2.ls), rk, ru, s3 _ _ ev2 (st2.neS ev2), tdg.vo, tdg.le.1, tdg.le.2, ⟨D, rfl, e3'⟩, fun ks e => by
          rw [← Option.some.inj e]; exact ⟨hn.sublist sub, fun k hk => sub.subset hk⟩⟩⟩
      refine iteFe (decide_eq_false (fun e => c4 (V.int.inj e))) ⟨_, rfl, use_draw st2 (by decide) (by decide) fun le H3 b0 b1 st3 s3 => ⟨r.a, lv, r.ks, d.vo, r.u, le, sv, d.sg, rfl, st3, s02.trans s3, s3 _ _ R2.ls (st2.neS R2.ls), rk, ru, s3 _ _ ev2 (st2.neS ev2), tdg.vo, b0, by omega, sg2.keep st2 s3, tdg.sg⟩⟩
    · rintro σ' H' ⟨la, lv', ks, vo, u, le, sv', sg, rfl, st', s', ela, skS, uK, elv, vS, le0, le4, sgA, sgS⟩
      have er' := s' _ _ e2 (st.no e2 refs_no)
      have ro' : ∀ x ∈ d.rows, TRow H' x := fun x hx => (rs x hx).keep st s'
      have ll : ((d.rows.map (·.t)).map V.ref).length = d.rows.length := by rw [List.length_map, List.length_map]
      refine ⟨_, rfl, _, rfl, n, rfl, lr, _, rfl, SqL.of er', fun pa npa => ?_⟩
      rw [cut_low n (by rw [ll]; omega)]
      have g1 := same_new (o := .lst (((d.rows.map (·.t)).map V.ref).take n)) npa
      refine ⟨_, rfl, _, rfl, _, rfl, by show 3 ≤ sizeLine; decide, fun tn ntn => ⟨by show 1 ≤ sizeLine; decide, fun pb npb => ?_⟩⟩
      have g2 := same_new (o := .tup [.str r.z, .ref la, .str u]) ntn
      have g3 := same_new (o := .lst [.ref tn]) npb
      refine ⟨pa, pb, _, _, rfl, rfl, g3 _ _ (g2 _ _ upd_same), upd_same, by rw [List.length_take, ll, sizeLine_eq]; show min n d.rows.length + 1 ≤ _; omega, fun pc npc => ?_⟩
      have g4 := same_new (o := .lst (((d.rows.map (·.t)).map V.ref).take n ++ [.ref tn])) npc
      have g14 := ((g1.trans g2).trans g3).trans g4
      refine ⟨_, rfl, _, rfl, n, 1, rfl, rfl, _, rfl, lr, _, rfl, SqL.of (g14 _ _ er'), fun pd npd => ?_⟩
      rw [show ((n : Int) + 1) = ((n + 1 : Nat) : Int) by omega, cut_high (n + 1) (by rw [ll]; omega)]
      have g5 := same_new (o := .lst (((d.rows.map (·.t)).map V.ref).drop (n + 1))) npd
      refine ⟨pc, pd, _, _, rfl, rfl, g5 _ _ upd_same, upd_same, by rw [List.length_append, List.length_take, List.length_drop, ll, sizeLine_eq]; show min n d.rows.length + 1 + _ ≤ _; omega, fun pe npe => ?_⟩
      have g6 := same_new (o := .lst (((d.rows.map (·.t)).map V.ref).take n ++ [.ref tn] ++ ((d.rows.map (·.t)).map V.ref).drop (n + 1))) npe
      refine ⟨_, rfl, _, rfl, _, rfl, by show 4 ≤ sizeLine; decide, fun q' nq' => ?_⟩
      have g7 := same_new (o := .tup [.ref pe, .ref lv', .int le, sv']) nq'
      have g17 := ((g14.trans g5).trans g6).trans g7
      have sp : d.rows = d.rows.take n ++ r :: d.rows.drop (n + 1) := by
        have z1 := List.getElem?_eq_some_iff.mp ern
        obtain ⟨hlt, ez⟩ := z1
        rw [← ez, List.getElem_cons_drop, List.take_append_drop]
      have eT : (((d.rows.take n ++ [(⟨r.z, tn, la, ks, u⟩ : Use)] ++ d.rows.drop (n + 1)).map fun x : Use => x.t).map V.ref : List V) = ((d.rows.map (·.t)).map V.ref).take n ++ [.ref tn] ++ ((d.rows.map (·.t)).map V.ref).drop (n + 1) := by
        simp only [List.map_append, List.map_take, List.map_drop, List.map_cons, List.map_nil]
      refine k q' ⟨d.rows.take n ++ [⟨r.z, tn, la, ks, u⟩] ++ d.rows.drop (n + 1), vo, le, sg⟩ _ ⟨?_, fun x hx => ?_, vS, ⟨le0, le4⟩, sgS⟩ (by
        have z0 := (((g14.trans g5).trans g6)).free nq'
        have qp : q' ≠ p := (st'.keep ((g14.trans g5).trans g6)).ne nq'
        exact s'.free z0 qp) ⟨⟨pe, lv', sv', upd_same, g7 _ _ (by rw [upd_same, eT]), g17 _ _ elv, ?_⟩, fun x hx => ?_⟩ (st'.keep g17) (s'.trans (SameB.of g17))
      · have z1 := tdg.zs
        rw [sp] at z1
        rw [← z1]
        simp only [List.map_append, List.map_cons, List.map_nil, List.append_assoc, List.cons_append, List.nil_append]
      · rcases List.mem_append.mp hx with hx | hx
        · rcases List.mem_append.mp hx with hx | hx
          · exact tdg.rows x (List.mem_of_mem_take hx)
          · rw [List.mem_singleton.mp hx]; exact ⟨uK, skS⟩
        · exact tdg.rows x (List.mem_of_mem_drop hx)
      · show SgAt _ sv' sg
        cases sg with
        | none => exact sgA
        | some ks2 =>
          obtain ⟨l0, a1, a2⟩ := sgA
          exact ⟨l0, a1, g17 _ _ a2⟩
      · have ktr : ∀ x ∈ d.rows, TRow _ x := fun x hx => ⟨g17 _ _ (ro' x hx).tp, g17 _ _ (ro' x hx).ls⟩
        rcases List.mem_append.mp hx with hx | hx
        · rcases List.mem_append.mp hx with hx | hx
          · exact ktr x (List.mem_of_mem_take hx)
          · rw [List.mem_singleton.mp hx]
            exact ⟨(((g3.trans g4).trans g5).trans (g6.trans g7)) _ _ upd_same, g17 _ _ ela⟩
        · exact ktr x (List.mem_of_mem_drop hx)
end
end K54C
namespace K54C
open PySem PySem.Spec PyProof.Rows L2 Jg
local macro_rules | `(tactic| walk_at "rd1") => `(tactic| (first
  | refine ⟨_, rfl, ?_⟩
  | refine ⟨_, _, rfl, rfl, ?_⟩
  | refine ⟨_, _, rfl, ?_⟩
  | refine ⟨rfl, ?_⟩
  | (refine ⟨show (0 : Int) < _ by omega, ?_⟩)
  | (refine ⟨Or.inl ⟨by omega, by omega⟩, ?_⟩)
  | (refine ⟨Or.inr ⟨by omega, by omega⟩, ?_⟩)
  | (refine ⟨(⟨by decide, by decide, by decide⟩ : CPow _ _), ?_⟩)
  | refine Or.inl ⟨_, rfl, ?_⟩
  | refine Or.inr ⟨_, rfl, ?_⟩
  | fail "rd"))
local macro_rules | `(tactic| walk_at "rd") => `(tactic| repeat' walk_at "rd1")
/-! ### several that are told -/
def hid (M : List Addr) (H : Hp) : Hp := fun q => if q ∈ M then none else H q
theorem hid_in {M : List Addr} {H : Hp} {q : Addr} {o : HO} (h : H q = some o) (n : q ∉ M) : hid M H q = some o := by unfold hid; rw [if_neg n]; exact h
theorem hid_get {M : List Addr} {H : Hp} {q : Addr} {o : HO} (h : hid M H q = some o) : H q = some o ∧ q ∉ M := by
  unfold hid at h
  by_cases c : q ∈ M
  · rw [if_pos c] at h; cases h
  · rw [if_neg c] at h; exact ⟨h, c⟩
theorem hid_same {M : List Addr} {H : Hp} : Same (hid M H) H := fun q o e => (hid_get e).1
theorem hid_keepB {M : List Addr} {p : Addr} {H H' : Hp} (s : SameB p H H') : SameB p (hid M H) (hid M H') := fun q o e n => hid_in (s _ _ (hid_get e).1 n) (hid_get e).2
theorem hid_mut {f : Addr} {H : Hp} {o : HO} : hid [f] (upd H f o) = hid [f] H := funext fun q => by
  unfold hid
  by_cases c : q ∈ [f]
  · rw [if_pos c, if_pos c]
  · rw [if_neg c, if_neg c, upd_ne (fun e => c (by rw [e]; exact List.mem_singleton.mpr rfl))]
theorem TdAt.hide {H : Hp} {q f q0 : Addr} {qs : List Addr} {d : Td} (h : TdAt H q d) (rn : d.rows ≠ []) (ef : H f = some (.lst ((q0 :: qs).map V.ref))) (e0 : ∃ a b c e, H q0 = some (.tup [a, b, c, e])) : TdAt (hid [f] H) q d := by
  obtain ⟨⟨lr, lv, sv, e1, e2, e3, e4⟩, rs⟩ := h
  have tup : ∀ {x : Addr} {xs : List V}, H x = some (.tup xs) → hid [f] H x = some (.tup xs) := fun e => hid_in e fun m => by
    rw [List.mem_singleton.mp m, ef] at e; cases e
  have txt : ∀ {x : Addr} {ks : List Str}, H x = some (.lst (ks.map V.str)) → hid [f] H x = some (.lst (ks.map V.str)) := fun {x ks} e => hid_in e fun m => by
    rw [List.mem_singleton.mp m, ef] at e
    cases ks with
    | nil => cases e
    | cons a r => injection e with e; injection e with e; injection e with e1 e2; cases e1
  refine ⟨⟨lr, lv, sv, tup e1, hid_in e2 fun m => ?_, txt e3, ?_⟩, fun r hr => ⟨tup (rs r hr).tp, txt (rs r hr).ls⟩⟩
  · rw [List.mem_singleton.mp m, ef] at e2
    cases hd : d.rows with
    | nil => exact rn hd
    | cons r0 rr =>
      rw [hd] at e2
      injection e2 with e2; injection e2 with e2; injection e2 with a1 a2
      have z := (rs r0 (by rw [hd]; exact List.mem_cons_self)).tp
      obtain ⟨a, b, c, e, ee⟩ := e0
      have a1' : q0 = r0.t := V.ref.inj a1
      rw [← a1', ee] at z
      cases z
  · cases hs : d.sg with
    | none => rw [hs] at e4; exact e4
    | some ks =>
      rw [hs] at e4
      obtain ⟨l0, a1, a2⟩ := e4
      exact ⟨l0, a1, txt a2⟩
inductive TdsAt (parts keys hands : List Str) (H : Hp) : List Addr → List Td → Prop
  | nil : TdsAt parts keys hands H [] []
  | cons {q : Addr} {d : Td} {qs : List Addr} {ds : List Td} : TdAt H q d → TdG parts keys hands d → TdsAt parts keys hands H qs ds → TdsAt parts keys hands H (q :: qs) (d :: ds)
theorem TdsAt.keep {parts keys hands : List Str} {H H' : Hp} {p : Addr} (st : StA H p) (s : SameB p H H') : ∀ {qs : List Addr} {ds : List Td}, TdsAt parts keys hands H qs ds → TdsAt parts keys hands H' qs ds
  | _, _, .nil => .nil
  | _, _, .cons a g r => .cons (a.keep st s) g (r.keep st s)
theorem TdsAt.same {parts keys hands : List Str} {H H' : Hp} (s : Same H H') : ∀ {qs : List Addr} {ds : List Td}, TdsAt parts keys hands H qs ds → TdsAt parts keys hands H' qs ds
  | _, _, .nil => .nil
  | _, _, .cons a g r => .cons (a.same s) g (r.same s)
theorem TdsAt.app {parts keys hands : List Str} {H : Hp} : ∀ {qs q2 : List Addr} {ds d2 : List Td}, TdsAt parts keys hands H qs ds → TdsAt parts keys hands H q2 d2 → TdsAt parts keys hands H (qs ++ q2) (ds ++ d2)
  | _, _, _, _, .nil, h => h
  | _, _, _, _, .cons a g r, h => .cons a g (r.app h)
theorem TdsAt.at_ {parts keys hands : List Str} {H : Hp} : ∀ {qs : List Addr} {ds : List Td} {i : Nat} {q : Addr}, TdsAt parts keys hands H qs ds → qs[i]? = some q → ∃ d, ds[i]? = some d ∧ TdAt H q d ∧ TdG parts keys hands d
  | _, _, i, _, .nil, h => by simp at h
  | _, _, 0, _, .cons a g _, h => by cases Option.some.inj h; exact ⟨_, rfl, a, g⟩
  | _, _, i + 1, _, .cons _ _ r, h => let ⟨d, a, b⟩ := r.at_ (i := i) (by simpa using h); ⟨d, by simpa using a, b⟩
theorem TdsAt.len {parts keys hands : List Str} {H : Hp} : ∀ {qs : List Addr} {ds : List Td}, TdsAt parts keys hands H qs ds → qs.length = ds.length
  | _, _, .nil => rfl
  | _, _, .cons _ _ r => by rw [List.length_cons, List.length_cons, r.len]
structure Gn (p l1 l2 l3 : Addr) (parts keys hands : List Str) (H : Hp) : Prop where
  st : StA H p
  e1 : H l1 = some (.lst (parts.map V.str))
  e2 : H l2 = some (.lst (keys.map V.str))
  e3 : H l3 = some (.lst (hands.map V.str))
structure Wn (parts keys hands : List Str) : Prop where
  p0 : 0 < parts.length
  p3 : parts.length ≤ 3
  k0 : 0 < keys.length
  k5 : keys.length ≤ 50
  kn : keys.Nodup
  h0 : 0 < hands.length
  h5 : hands.length ≤ 50
  hn : hands.Nodup
theorem Gn.keep {p l1 l2 l3 : Addr} {parts keys hands : List Str} {H H' : Hp} (g : Gn p l1 l2 l3 parts keys hands H) (s : SameB p H H') (st : StA H' p) : Gn p l1 l2 l3 parts keys hands H' :=
  ⟨st, s _ _ g.e1 (g.st.neS g.e1), s _ _ g.e2 (g.st.neS g.e2), s _ _ g.e3 (g.st.neS g.e3)⟩
theorem use_told {K : PySem.W.Frag} {H : Hp} {p l1 l2 l3 : Addr} {parts keys hands : List Str} {Q : VK} {E : XK} (g : Gn p l1 l2 l3 parts keys hands H) (w : Wn parts keys hands) (k : ∀ q d H', TdG parts keys hands d → H q = none → TdAt H' q d → StA H' p → SameB p H H' → Q (.ref q) H') : spTold K [.ref p, .ref l1, .ref l2, .ref l3] H Q E :=
  ⟨p, l1, l2, l3, parts, keys, hands, rfl, g.st, g.e1, g.e2, g.e3, w.p3, w.k0, w.k5, w.kn, w.h5, fun q d H' ok nq td st s => k q d H' (ok.g w.hn) nq td st s⟩
theorem use_next {K : PySem.W.Frag} {H : Hp} {p q l1 l2 l3 : Addr} {d : Td} {parts keys hands : List Str} {Q : VK} {E : XK} (g : Gn p l1 l2 l3 parts keys hands H) (w : Wn parts keys hands) (td : TdAt H q d) (tg : TdG parts keys hands d) (k : ∀ q' d' H', TdG parts keys hands d' → H q' = none → TdAt H' q' d' → StA H' p → SameB p H H' → Q (.ref q') H') : spNext K [.ref p, .ref q, .ref l2, .ref l3] H Q E := by
  unfold spNext
  exact ⟨p, q, l2, l3, d, parts, keys, hands, rfl, g.st, td, tg, g.e2, g.e3, w.p0, w.p3, w.k0, w.k5, w.h0, w.h5, w.hn, k⟩
@[irreducible] def spToldI (K : PySem.W.Frag) : Sp := spTold K
theorem use_toldI {K : PySem.W.Frag} {H : Hp} {p l1 l2 l3 : Addr} {parts keys hands : List Str} {Q : VK} {E : XK} (g : Gn p l1 l2 l3 parts keys hands H) (w : Wn parts keys hands) (k : ∀ q d H', TdG parts keys hands d → H q = none → TdAt H' q d → StA H' p → SameB p H H' → Q (.ref q) H') : spToldI K [.ref p, .ref l1, .ref l2, .ref l3] H Q E := by
  unfold spToldI
  exact use_told g w k
theorem TdG.rn {parts keys hands : List Str} {d : Td} (g : TdG parts keys hands d) (w : Wn parts keys hands) : d.rows ≠ [] := fun e => by
  have z := g.zs
  rw [e] at z
  have := w.p0
  rw [← z] at this
  cases this
theorem TdAt.four {H : Hp} {q : Addr} {d : Td} (h : TdAt H q d) : ∃ a b c e, H q = some (.tup [a, b, c, e]) := let ⟨⟨_, _, _, e, _⟩, _⟩ := h; ⟨_, _, _, _, e⟩
@[irreducible] def spTolds (K : PySem.W.Frag) : Sp := fun vs H Q _ => ∃ (p l1 l2 l3 : Addr) (n : Nat) (parts keys hands : List Str), vs = [.ref p, .int n, .ref l1, .ref l2, .ref l3] ∧ Gn p l1 l2 l3 parts keys hands H ∧ Wn parts keys hands ∧ 1 ≤ n ∧ n ≤ 100 ∧
  ∀ f qs ds H', H f = none → f ≠ p → qs.length = n → H' f = some (.lst (qs.map V.ref)) → TdsAt parts keys hands H' qs ds → StA H' p → SameB p H H' → Q (.ref f) H'
section
variable {P : Program} {w : World} {K : PySem.W.Frag} {mg : Str → Option Value} {base : Heap}
abbrev s_law_tolds : Stmt := top 97
theorem sc_law_tolds : FnScope ["stream", "count", "parts", "keys", "hands", "found", "turn", "later"] ["stream", "count", "parts", "keys", "hands"] (defScope s_law_tolds) := ⟨rfl, rfl, rfl, by decide +kernel, rfl, by decide +kernel, by decide +kernel⟩
theorem ok_tolds (D : DefK K mg "_law_tolds" s_law_tolds) (T : Txt K mg) (G_law_draw : Cal P w K mg base CX0 1 "_law_draw" spDr) (G_law_told : Cal P w K mg base CX0 3 "_law_told" (spToldI K)) (G_law_next : Cal P w K mg base CX0 3 "_law_next" (spNext K)) : Cal P w K mg base CX0 4 "_law_tolds" (spTolds K) := by
  unfold spTolds
  refine D.cal sc_law_tolds (fun _ _ _ _ _ _ us hl => match us, hl with | [_, _, _, _, _], _ => rfl) (fun vs H Q E h => ?_) fun f0 cdv A outer s H vs Q E hr h => ?_
  · obtain ⟨p, l1, l2, l3, n, parts, keys, hands, rfl, _⟩ := h; rfl
  · obtain ⟨p, l1, l2, l3, n, parts, keys, hands, rfl, g, wn, n1, n9, k⟩ := h
    refine ⟨_, (pss_cons (ps_set (i := 5) sc_law_tolds.nd rfl (Or.inl rfl) (pe_lst (pa_cons (pe_c G_law_told hr (by decide) rfl (pa_cons (pv 0) (pa_cons (pv 2) (pa_cons (pv 3) (pa_cons (pv 4) pa_nil))))) pa_nil)))
      (pss_cons (ps_for PassesOwn.never rfl (pi_range1 (by rfl) T.b_range (pa_cons (pe_op op_sub (pv 1) pe_int) pa_nil)) (pg_name (i := 6) sc_law_tolds.nd rfl (Or.inl rfl)) (pss_cons (ps_set (i := 7) sc_law_tolds.nd rfl (Or.inl rfl) (pe_c G_law_next hr (by decide) rfl (pa_cons (pv 0) (pa_cons (pe_ix (r := rIxL K) ix_list (pv 5) (pe_un un_neg pe_int) (fun _ _ => rfl)) (pa_cons (pv 3) (pa_cons (pv 4) pa_nil))))))
      (pss_one (ps_expr (pe_bm F.plainAttrs_list F.slot_list_append F.type_list_append mt_append (pv 5) (pa_cons (pe_ifExp (pt_cmpR op_gt (pe_c G_law_draw hr (by decide) rfl (pa_cons (pv 0) (pa_cons pe_int pa_nil))) pe_int (nomark _)) (pv 7) (pe_c G_law_next hr (by decide) rfl (pa_cons (pv 0) (pa_cons (pv 7) (pa_cons (pv 3) (pa_cons (pv 4) pa_nil)))))) pa_nil))))))
      (pss_one (ps_ret (pv 5))))), ?_⟩
    refine ⟨_, rfl, _, rfl, _, rfl, _, rfl, use_toldI g wn fun q0 d0 H1 g0 nq0 td0 st1 s1 => ⟨by show 1 ≤ sizeLine; decide, fun f nf => ?_⟩⟩
    have fp : f ≠ p := st1.ne nf
    have ef : upd H1 f (.lst [.ref q0]) f = some (.lst [.ref q0]) := upd_same
    have sf := same_new (o := .lst [.ref q0]) nf
    have nfH : H f = none := s1.free nf fp
    have td0f : TdAt (upd H1 f (.lst [.ref q0])) q0 d0 := td0.same sf
    have ih0 : TdsAt parts keys hands (hid [f] (upd H1 f (.lst [.ref q0]))) [q0] [d0] := .cons (td0f.hide (g0.rn wn) (qs := []) ef td0f.four) g0 .nil
    have st2 := st1.keep sf
    have s2 := s1.trans (SameB.of sf)
    generalize upd H1 f (.lst [.ref q0]) = H2 at *
    refine ⟨_, rfl, _, _, rfl, rfl, _, rfl, by omega, by omega, ?_⟩
    refine for_range (lo := 0) (fun i sg Hi => ∃ (v6 v7 : Option V) (qs : List Addr) (ds : List Td), sg = [some (.ref p), some (.int n), some (.ref l1), some (.ref l2), some (.ref l3), some (.ref f), v6, v7] ∧ StA Hi p ∧ SameB p H Hi ∧ Hi f = some (.lst ((q0 :: qs).map V.ref)) ∧ qs.length = i ∧ TdsAt parts keys hands (hid [f] Hi) (q0 :: qs) (d0 :: ds)) ⟨_, _, [], [], rfl, st2, s2, ef, rfl, ih0⟩ ?_ ?_
    · rintro i sg Hi hi ⟨v6, v7, qs, ds, rfl, sti, si, efi, ql, ih⟩
      have sth : StA (hid [f] Hi) p := by
        obtain ⟨a, b, e, h⟩ := sti
        exact ⟨a, b, hid_in e (fun m => fp (List.mem_singleton.mp m).symm), h⟩
      have four0 : ∀ {Hx : Hp}, SameB p Hi Hx → ∃ a b c e, Hx q0 = some (.tup [a, b, c, e]) := fun {Hx} s => by
        cases ih with | cons a _ _ => exact ((a.same hid_same).keep sti s).four
      have fin : ∀ (qx : Addr) (dx : Td) (Hx : Hp) (v7 : Option V), TdAt Hx qx dx → TdG parts keys hands dx → StA Hx p → SameB p Hi Hx → ∃ (v6 v7' : Option V) (qs2 : List Addr) (ds2 : List Td), ([some (.ref p), some (.int n), some (.ref l1), some (.ref l2), some (.ref l3), some (.ref f), some (.int (0 + (i : Int))), v7] : L2.St) = [some (.ref p), some (.int n), some (.ref l1), some (.ref l2), some (.ref l3), some (.ref f), v6, v7'] ∧ StA (upd Hx f (.lst ((q0 :: qs).map V.ref ++ [.ref qx]))) p ∧ SameB p H (upd Hx f (.lst ((q0 :: qs).map V.ref ++ [.ref qx]))) ∧ upd Hx f (.lst ((q0 :: qs).map V.ref ++ [.ref qx])) f = some (.lst ((q0 :: qs2).map V.ref)) ∧ qs2.length = i + 1 ∧ TdsAt parts keys hands (hid [f] (upd Hx f (.lst ((q0 :: qs).map V.ref ++ [.ref qx])))) (q0 :: qs2) (d0 :: ds2) := fun qx dx Hx v7 tx gx stx sx => by
        have efx := sx _ _ efi fp
        refine ⟨_, _, qs ++ [qx], ds ++ [dx], rfl, ?_, fun q o e nn => by rw [upd_ne (ne_of_none e nfH)]; exact sx _ _ (si _ _ e nn) nn, by rw [upd_same, List.map_cons, List.map_cons, List.map_append]; rfl, by rw [List.length_append, ql]; rfl, ?_⟩
        · obtain ⟨a, b, e, h⟩ := stx
          exact ⟨a, b, by rw [upd_ne fp.symm]; exact e, h⟩
        · rw [hid_mut]
          exact (ih.keep sth (hid_keepB sx)).app (.cons (tx.hide (gx.rn wn) efx (four0 sx)) gx .nil)
      have lt : i < (q0 :: qs).length := by rw [List.length_cons, ql]; omega
      have eq : (q0 :: qs)[i]? = some ((q0 :: qs)[i]'lt) := List.getElem?_eq_getElem lt
      have el : (q0 :: qs).map V.ref = ((q0 :: qs).take i).map V.ref ++ [V.ref ((q0 :: qs)[i]'lt)] := by
        have z := List.take_succ (l := q0 :: qs) (i := i)
        rw [eq, List.take_of_length_le (by rw [List.length_cons, ql]; omega)] at z
        conv => lhs; rw [z]
        rw [List.map_append]; rfl
      generalize (q0 :: qs)[i]'lt = qe at eq el
      obtain ⟨de, _, te, ge⟩ := ih.at_ eq
      have te' : TdAt Hi qe de := te.same hid_same
      have gi := g.keep si sti
      refine ⟨_, rfl, _, rfl, _, rfl, f, _, _, _, rfl, rfl, SqL.of efi, by rw [el]; exact atI_last _ _, _, rfl, _, rfl, use_next gi wn te' ge fun q1 d1 Ha g1 nq1 t1 sta sa => ?_⟩
      refine ⟨_, rfl, .inl ⟨rfl, _, .inl (.inl (sa _ _ efi fp))⟩, ?_⟩
      refine ⟨_, rfl, use_draw sta (by decide) (by decide) fun v Hb v0 v1 stb sb => ⟨_, _, rfl, rfl, _, rfl, ?_⟩⟩
      by_cases c : 0 < v
      · refine iteTe (decide_eq_true c) ⟨_, rfl, f, _, _, rfl, rfl, (sa.trans sb) _ _ efi fp, by rw [List.length_map, List.length_cons, ql, sizeLine_eq]; omega, fin q1 d1 Hb _ (t1.keep sta sb) g1 stb (sa.trans sb)⟩
      · have gb := gi.keep (sa.trans sb) stb
        refine iteFe (decide_eq_false c) ⟨_, rfl, _, rfl, _, rfl, _, rfl, use_next gb wn (t1.keep sta sb) g1 fun q2 d2 Hc g2 nq2 t2 stc sc => ⟨f, _, _, rfl, rfl, ((sa.trans sb).trans sc) _ _ efi fp, by rw [List.length_map, List.length_cons, ql, sizeLine_eq]; omega, fin q2 d2 Hc _ t2 g2 stc ((sa.trans sb).trans sc)⟩⟩
    · rintro sg Hi ⟨v6, v7, qs, ds, rfl, sti, si, efi, ql, ih⟩
      exact ⟨_, rfl, k f (q0 :: qs) (d0 :: ds) Hi nfH fp (by rw [List.length_cons, ql]; omega) efi (ih.same hid_same) sti si⟩
end
end K54C
namespace K54C
open PySem PySem.Spec PyProof.Rows L2 Jg
local macro_rules | `(tactic| walk_at "rd1") => `(tactic| (first
  | refine ⟨_, rfl, ?_⟩
  | refine ⟨_, _, rfl, rfl, ?_⟩
  | refine ⟨_, _, rfl, ?_⟩
  | refine ⟨rfl, ?_⟩
  | (refine ⟨show (0 : Int) < _ by omega, ?_⟩)
  | (refine ⟨Or.inl ⟨by omega, by omega⟩, ?_⟩)
  | (refine ⟨Or.inr ⟨by omega, by omega⟩, ?_⟩)
  | (refine ⟨(⟨by decide, by decide, by decide⟩ : CPow _ _), ?_⟩)
  | refine Or.inl ⟨_, rfl, ?_⟩
  | refine Or.inr ⟨_, rfl, ?_⟩
  | fail "rd"))
local macro_rules | `(tactic| walk_at "rd") => `(tactic| repeat' walk_at "rd1")
/-! ### contents are made of what was told: rows (as in law_k06) -/
def sD (ks : List Str) : PyData := .list (ks.map PyData.str)
def sgT (d : Td) : List Str := d.sg.getD d.vo
structure WdL (ks : List Str) (m : Nat) : Prop where
  nd : ks.Nodup
  le : ks.length ≤ m
  wd : ∀ k ∈ ks, Wd k
structure TdR (d : Td) : Prop where
  n1 : 1 ≤ d.rows.length
  n3 : d.rows.length ≤ 3
  nd : (d.rows.map (·.z)).Nodup
  rw_ : ∀ r ∈ d.rows, Wd r.z ∧ Wd r.u ∧ WdL r.ks 8
  vo : WdL d.vo 4
  le : 0 ≤ d.le ∧ d.le ≤ 4
  sg : ∀ ks, d.sg = some ks → WdL ks 4
/-- these contents are what was told -/
structure CtIs (d : Td) (c : Ct) : Prop where
  zs : c.us.map (·.z) = srtW (d.rows.map (·.z))
  us : ∀ r ∈ c.us, ∃ q ∈ d.rows, q.z = r.z ∧ q.u = r.u ∧ r.ks = srtW q.ks
  vo : c.vo = srtW d.vo
  ne : c.ne = d.le
  si : c.si = srtW (sgT d)
theorem WdL.keys {ks : List Str} {m : Nat} (h : WdL ks m) : keysB (ks.map V.str) m = true := by
  unfold keysB
  have e : (ks.map V.str).map txV = ks := by rw [List.map_map]; exact (List.map_congr_left fun _ _ => rfl).trans (List.map_id ks)
  have l := h.le
  have o : (onceW ks).length = ks.length := (once_perm h.nd).length_eq
  rw [e, List.length_map, o]
  have w : (ks.map V.str).all flagV = true := List.all_eq_true.mpr fun x hx => by
    obtain ⟨z, hz, rfl⟩ := List.mem_map.mp hx
    exact (h.wd z hz).ok.2
  rw [w, decide_eq_true rfl, decide_eq_false (by omega)]; rfl
/-- a list or a tuple of these words -/
def seqO (b : Bool) (ks : List Str) : HO := if b then .lst (ks.map V.str) else .tup (ks.map V.str)
theorem seqO_is {K : PySem.W.Frag} {H : Hp} {a : Addr} {b : Bool} {ks : List Str} (h : H a = some (seqO b ks)) : SqE K b H a (ks.map V.str) := by
  cases b with
  | true => exact SqL.of h
  | false => exact SqT.of h
theorem seqO_ty {K : PySem.W.Frag} {H : Hp} {a : Addr} {b : Bool} {ks : List Str} (h : H a = some (seqO b ks)) : TyX K H (.ref a) (.type (if b then "list" else "tuple")) := by
  cases b with
  | true => exact .base (.lst h)
  | false => exact .base (.tup h)
theorem kl_of {K : PySem.W.Frag} {H : Hp} {a : Addr} {b : Bool} {ks : List Str} {m : Nat} (h : H a = some (seqO b ks)) (w : WdL ks m) (hm : m ≤ 500) : KLOk K H ⟨a, b, ks⟩ :=
  ⟨seqO_is h, fun H' s => seqO_ty (s _ _ h), Nat.le_trans w.le hm, fun k hk => (w.wd k hk).ok.1⟩
/-- a role's use as it is copied -/
structure CpAt (H : Hp) (D p : Addr) (b : Bool) (r : Row) : Prop where
  pr : H p = some (.tup [.str r.z, .ref r.t])
  tp : H r.t = some (.tup [.ref r.a, .str r.u])
  sq : H r.a = some (seqO b r.ks)
  b_ : r.b = b
  np : p ≠ D
  nt : r.t ≠ D
  na : r.a ≠ D
theorem val_no : ∀ (kvs : List (Key × V)) {k : Key}, k ∉ kvs.map (·.1) → valV kvs k = none
  | [], _, _ => rfl
  | p :: r, k, h => by
    rw [List.map_cons, List.mem_cons, not_or] at h
    rw [valV_neg (fun q => h.1 q.symm)]
    exact val_no r h.2
theorem mergeK_id : ∀ (kvs acc : List (Key × V)), ((acc ++ kvs).map (·.1)).Nodup → mergeK acc kvs = acc ++ kvs
  | [], acc, _ => (List.append_nil _).symm
  | p :: r, acc, h => by
    have n : p.1 ∉ acc.map (·.1) := by
      rw [List.map_append, List.map_cons, List.nodup_append] at h
      exact fun q => h.2.2 _ q _ (List.mem_cons_self ..) rfl
    have z : putK acc p.1 p.2 = acc ++ [(p.1, p.2)] := putK_new _ (val_no acc n)
    show mergeK (putK acc p.1 p.2) r = _
    rw [z, mergeK_id r (acc ++ [(p.1, p.2)]) (by rw [List.append_assoc]; exact h), List.append_assoc]; rfl
def cpG (p : Addr × Row) : Str × List Str × Str := (p.2.z, p.2.ks, p.2.u)
theorem CpAt.up {H : Hp} {D p : Addr} {b : Bool} {r : Row} {o : HO} (h : CpAt H D p b r) : CpAt (upd H D o) D p b r :=
  ⟨by rw [upd_ne h.np]; exact h.pr, by rw [upd_ne h.nt]; exact h.tp, by rw [upd_ne h.na]; exact h.sq, h.b_, h.np, h.nt, h.na⟩
theorem CpAt.keep {H H' : Hp} {D p : Addr} {b : Bool} {r : Row} (h : CpAt H D p b r) (s : Same H H') : CpAt H' D p b r :=
  ⟨s _ _ h.pr, s _ _ h.tp, s _ _ h.sq, h.b_, h.np, h.nt, h.na⟩
/-- what a copied row is, new from here -/
theorem cp_new {H' H4 : Hp} {D t p a : Addr} {b : Bool} {z u : Str} {ks : List Str} {oD : HO} (eD : H' D = some oD) (na : a ≠ D) (s2 : Same H' H4) (ea : H4 a = some (seqO b ks)) (nt : H4 t = none) (np : upd H4 t (.tup [.ref a, .str u]) p = none) :
    Same H' (upd (upd H4 t (.tup [.ref a, .str u])) p (.tup [.str z, .ref t])) ∧ CpAt (upd (upd H4 t (.tup [.ref a, .str u])) p (.tup [.str z, .ref t])) D p b ⟨z, t, a, b, ks, u⟩ := by
  have st := same_new (o := .tup [.ref a, .str u]) nt
  have sp_ := same_new (o := .tup [.str z, .ref t]) np
  exact ⟨(s2.trans st).trans sp_, upd_same, sp_ _ _ upd_same, sp_ _ _ (st _ _ ea), rfl, (ne_of_none (st _ _ (s2 _ _ eD)) np).symm, (ne_of_none (s2 _ _ eD) nt).symm, na⟩
/-- these rows are those that were told -/
structure RowsOf (d : Td) (rows : List Row) : Prop where
  pm : (rows.map (·.z)).Perm (d.rows.map (·.z))
  ex : ∀ r ∈ rows, ∃ q ∈ d.rows, q.z = r.z ∧ q.u = r.u ∧ r.ks.Perm q.ks
def SgIs (H : Hp) (sv : V) (o : Option (List Str)) (so : Option KL) : Prop := (sv = .non ∧ o = none ∧ so = none) ∨ ∃ l ks, sv = .ref l.a ∧ so = some l ∧ o = some ks ∧ H l.a = some (seqO l.b l.ks) ∧ l.ks.Perm ks
theorem WdL.perm {ks ls : List Str} {m : Nat} (h : WdL ks m) (p : ls.Perm ks) : WdL ls m := ⟨p.nodup_iff.mpr h.nd, by rw [p.length_eq]; exact h.le, fun k hk => h.wd k (p.mem_iff.mp hk)⟩
theorem right_of {K : PySem.W.Frag} {H : Hp} {dp : Addr} {rows : List Row} {lv : KL} {sv : V} {so : Option KL} {d : Td} (ok : TdR d) (ro : RowsOf d rows) (hd : H dp = some (.dK (dictOf rows))) (hrow : ∀ r ∈ rows, H r.t = some (.tup [.ref r.a, .str r.u]) ∧ H r.a = some (seqO r.b r.ks))
    (hl : H lv.a = some (seqO lv.b lv.ks)) (pl : lv.ks.Perm d.vo) (hs : SgIs H sv d.sg so) : Right K H (.ref dp) (.ref lv.a) (.int d.le) sv rows lv d.le so := by
  have len := ro.pm.length_eq
  rw [List.length_map, List.length_map] at len
  have wd : ∀ r ∈ rows, Wd r.z ∧ Wd r.u ∧ WdL r.ks 8 := fun r hr => by
    obtain ⟨q, hq, e1, e2, e3⟩ := ro.ex r hr
    obtain ⟨w1, w2, w3⟩ := ok.rw_ q hq
    exact ⟨e1 ▸ w1, e2 ▸ w2, w3.perm e3⟩
  refine ⟨⟨dp, rfl, hd, fun r hr => ?_⟩, by rw [len]; exact ok.n1, by rw [len]; exact ok.n3, ro.pm.nodup_iff.mpr ok.nd, List.all_eq_true.mpr fun r hr => ?_, ⟨rfl, kl_of hl (ok.vo.perm pl) (by decide), (ok.vo.perm pl).keys⟩, ⟨rfl, ok.le⟩, ?_⟩
  · obtain ⟨h1, h2⟩ := hrow r hr
    obtain ⟨w1, w2, w3⟩ := wd r hr
    have na : r.a ≠ dp := fun e => by rw [e, hd] at h2; cases hb : r.b <;> rw [hb] at h2 <;> cases h2
    refine ⟨h1, (fun e => by rw [e, hd] at h1; cases h1), na, seqO_is h2, fun H' s => seqO_ty (s _ _ h2 na), Nat.le_trans w3.le (by decide), fun k hk => (w3.wd k hk).ok.1, w1.ok.1, w2.ok.1⟩
  · obtain ⟨w1, w2, w3⟩ := wd r hr
    unfold rowB
    have k8 : keysB (r.ks.map V.str) 8 = true := w3.keys
    rw [w1.ok.2, w2.ok.2, k8]; rfl
  · rcases hs with ⟨rfl, _, rfl⟩ | ⟨l, ks, rfl, rfl, e, h, p⟩
    · exact .inl ⟨rfl, rfl⟩
    · exact .inr ⟨l, rfl, rfl, kl_of h ((ok.sg ks e).perm p) (by decide), ((ok.sg ks e).perm p).keys⟩
theorem ctis_of {H : Hp} {rows : List Row} {lv : KL} {sv : V} {so : Option KL} {d : Td} {c : Ct} (ro : RowsOf d rows) (pl : lv.ks.Perm d.vo) (hs : SgIs H sv d.sg so) (m : Made rows lv.ks d.le (sgOf lv so) c) : CtIs d c := by
  refine ⟨m.zs.trans (srtW_congr ro.pm), fun r hr => ?_, m.vo.trans (srtW_congr pl), m.ne, m.si.trans (srtW_congr ?_)⟩
  · obtain ⟨r2, h2, e1, e2, e3⟩ := m.us r hr
    obtain ⟨q, hq, f1, f2, f3⟩ := ro.ex r2 h2
    exact ⟨q, hq, f1.trans e1, f2.trans e2, e3.trans (srtW_congr f3)⟩
  · unfold sgOf sgT
    rcases hs with ⟨rfl, e, rfl⟩ | ⟨l, ks, rfl, rfl, e, h, p⟩
    · rw [e]; exact pl
    · rw [e]; exact p
theorem nodup_inr : ∀ {l : List Str}, l.Nodup → (l.map (Sum.inr : Str → Key)).Nodup
  | [], _ => List.nodup_nil
  | x :: r, h => by
    rw [List.nodup_cons] at h
    rw [List.map_cons, List.nodup_cons]
    refine ⟨fun q => ?_, nodup_inr h.2⟩
    obtain ⟨y, hy, e⟩ := List.mem_map.mp q
    exact h.1 (Sum.inr.inj e ▸ hy)
def cpKv (ps : List (Addr × Row)) : List (Key × V) := ps.map fun p => (Sum.inr p.2.z, V.ref p.2.t)
theorem paired_cp {K : PySem.W.Frag} {H : Hp} {D : Addr} {b : Bool} : ∀ {ps : List (Addr × Row)}, (∀ p ∈ ps, CpAt H D p.1 b p.2) → Paired (fun (p : Addr) (kv : Key × V) => SqT K H p [kV kv.1, kv.2]) (ps.map (·.1)) (cpKv ps)
  | [], _ => .nil
  | p :: r, h => .cons (SqT.of (h p (List.mem_cons_self ..)).pr) (paired_cp fun q hq => h q (List.mem_cons_of_mem _ hq))
theorem cp_merge {ps : List (Addr × Row)} (nd : (ps.map (·.2.z)).Nodup) : mergeK [] (cpKv ps) = dictOf (ps.map (·.2)) := by
  have e : ((([] : List (Key × V)) ++ cpKv ps).map (·.1)) = (ps.map (·.2.z)).map Sum.inr := by
    unfold cpKv
    rw [List.nil_append, List.map_map, List.map_map]; rfl
  rw [mergeK_id (cpKv ps) [] (by rw [e]; exact nodup_inr nd), List.nil_append]
  unfold cpKv dictOf
  rw [List.map_map]; rfl
theorem sg_is {H H' : Hp} {sv : V} {o : Option (List Str)} (h : SgAt H sv o) (s : Same H H') : ∃ so, SgIs H' sv o so := by
  cases o with
  | none => exact ⟨none, .inl ⟨h, rfl, rfl⟩⟩
  | some ks =>
    obtain ⟨l, e, h⟩ := h
    exact ⟨some ⟨l, true, ks⟩, .inr ⟨_, ks, e, rfl, rfl, s _ _ h, .refl _⟩⟩
/-- the words of a whole run -/
structure Ww (parts keys hands : List Str) : Prop where
  n : Wn parts keys hands
  pn : parts.Nodup
  k8 : keys.length ≤ 8
  h4 : hands.length ≤ 4
  pw : ∀ z ∈ parts, Wd z
  kw : ∀ z ∈ keys, Wd z
  hw : ∀ z ∈ hands, Wd z
theorem Sb.wdl {hs ks : List Str} {m : Nat} (h : Sb hs ks) (w : ∀ z ∈ hs, Wd z) (le : hs.length ≤ m) : WdL ks m := ⟨h.nd, Nat.le_trans h.len le, fun k hk => w k (h.sub k hk)⟩
theorem TdG.r {parts keys hands : List Str} {d : Td} (g : TdG parts keys hands d) (w : Ww parts keys hands) : TdR d := by
  have len : d.rows.length = parts.length := by rw [← g.zs, List.length_map]
  refine ⟨by rw [len]; exact w.n.p0, by rw [len]; exact w.n.p3, by rw [g.zs]; exact w.pn, fun r hr => ⟨w.pw _ (by rw [← g.zs]; exact List.mem_map_of_mem hr), w.kw _ (g.rows r hr).1, (g.rows r hr).2.wdl w.kw w.k8⟩, g.vo.wdl w.hw w.h4, g.le, fun ks e => (g.sg ks e).wdl w.hw w.h4⟩
def spCon (C : Addr) : Sp := fun vs H Q _ => ∃ q d, vs = [.ref q] ∧ TdAt H q d ∧ TdR d ∧ ∀ z c H', CAt (fun q => H q = none) C H' z c → CtOk c → CtIs d c → Same H H' → Q (.ref z) H'
section
variable {P : Program} {w : World} {K : PySem.W.Frag} {mg : Str → Option Value} {base : Heap} {C CI : Addr}
abbrev s_law_contents : Stmt := top 99
theorem sc_law_contents : FnScope ["told", "rows", "vouch", "least", "signing", "part", "likes", "own"] ["told"] (defScope s_law_contents) := ⟨rfl, rfl, rfl, by decide +kernel, rfl, by decide +kernel, by decide +kernel⟩
theorem ok_con (D : DefK K mg "_law_contents" s_law_contents) (T : Txt K mg) (J : CTx K mg C) (M_Contents : MakN P w K mg base (L2.CX P w) 7 "Contents" C 2 ["needed", "signers"] (fun vs zs => vs ++ zs) (spCInit P w K C CI)) : Cal P w K mg base CX0 9 "_law_contents" (spCon C) := by
  refine D.cal sc_law_contents (fun _ _ _ _ _ _ us hl => match us, hl with | [_], _ => rfl) (fun vs H Q E h => ?_) fun f0 cdv A outer s H vs Q E hr h => ?_
  · obtain ⟨q, d, rfl, _⟩ := h; rfl
  · obtain ⟨q, d, rfl, td, ok, k⟩ := h
    refine ⟨_, (pss_cons (ps_asg (pv 0) (pg_tup rfl (pgs_cons (pg_name (i := 1) sc_law_contents.nd rfl (Or.inl rfl)) (pgs_cons (pg_name (i := 2) sc_law_contents.nd rfl (Or.inl rfl)) (pgs_cons (pg_name (i := 3) sc_law_contents.nd rfl (Or.inl rfl)) (pgs_cons (pg_name (i := 4) sc_law_contents.nd rfl (Or.inl rfl)) pgs_nil))))))
      (pss_one (ps_ret (pe_mkNS M_Contents takes0 hr (by decide) rfl (pa_cons (pe_callTy (call_dictP rfl) (by rfl) T.b_dict (by decide +kernel) (pa_cons (pe_lc (own := [("part", 5), ("likes", 6), ("own", 7)]) (g := gTup K 3 (gCons (gName 5) (gCons (gName 6) (gCons (gName 7) gNil)))) (by rfl) sc_law_contents.nd (pi_list (pv 1)) (blkOk_by (own := [("part", 5), ("likes", 6), ("own", 7)]) (N := ["told", "rows", "vouch", "least", "signing", "part", "likes", "own"]) (sc := defScope s_law_contents) (by decide +kernel)) (fun _ _ _ _ _ => pg_tup rfl (pgs_cons (pg_name (i := 5) sc_law_contents.nd rfl (Or.inl rfl)) (pgs_cons (pg_name (i := 6) sc_law_contents.nd rfl (Or.inl rfl)) (pgs_cons (pg_name (i := 7) sc_law_contents.nd rfl (Or.inl rfl)) pgs_nil)))) (fun _ _ _ _ _ => pts_nil) (fun _ _ _ _ _ => (pe_tup (pa_cons (pv 5) (pa_cons (pe_tup (pa_cons (pv 6) (pa_cons (pv 7) pa_nil))) pa_nil))))) pa_nil)) (pa_cons (pv 2) pa_nil)) (pk_cons (pv 3) (pk_cons (pv 4) pk_nil)))))), ?_⟩
    obtain ⟨⟨lr, lv, sv, e1, e2, e3, e4⟩, rs⟩ := id td
    refine ⟨_, rfl, q, _, rfl, SqT.of e1, rfl, _, _, rfl, _, _, rfl, _, _, rfl, _, _, rfl, rfl, ?_⟩
    refine ⟨_, rfl, lr, rfl, ⟨_, SqL.of e2⟩, fun D nD => ?_⟩
    have few := ok.n3
    refine lc_list (K := K) (a := lr) (xs := (d.rows.map (·.t)).map V.ref) (fun i H' => ∃ ps : List (Addr × Row), H' D = some (.lst ((ps.map (·.1)).map V.ref)) ∧ ps.map cpG = (d.rows.take i).map tri ∧ (∀ p ∈ ps, CpAt H' D p.1 true p.2) ∧ Same H H') ⟨[], upd_same, rfl, (fun _ h => nomatch h), same_new nD⟩ (fun i H' _ ⟨_, _, _, _, s⟩ => SqL.of (s _ _ e2)) ?_ ?_
    · rintro i x H' hx ⟨ps, eD, eP, cP, sP⟩
      obtain ⟨r, er, rfl⟩ : ∃ r, d.rows[i]? = some r ∧ x = .ref r.t := by
        rw [List.getElem?_map, List.getElem?_map] at hx
        cases c : d.rows[i]? with
        | none => rw [c] at hx; cases hx
        | some r => rw [c] at hx; exact ⟨r, rfl, (Option.some.inj hx).symm⟩
      have R := rs r (List.mem_of_getElem? er)
      have tk : d.rows.take (i + 1) = d.rows.take i ++ [r] := by rw [List.take_succ, er]; rfl
      refine ⟨r.t, _, rfl, SqT.of (sP _ _ R.tp), rfl, _, _, rfl, _, _, rfl, _, _, rfl, rfl, rfl, yes_if ?_⟩
      refine ⟨_, rfl, _, rfl, _, rfl, by show 2 ≤ sizeLine; decide, fun t nt => ⟨by show 2 ≤ sizeLine; decide, fun p np => ?_⟩⟩
      obtain ⟨n1, n2⟩ := cp_new eD (ne_of_none R.ls nD) (.refl H') (show H' r.a = some (seqO true r.ks) from sP _ _ R.ls) nt np
      generalize upd (upd H' t (.tup [.ref r.a, .str r.u])) p (.tup [.str r.z, .ref t]) = H4 at *
      have pl : ps.length = i := by
        have z1 := congrArg List.length eP
        have lt : i < d.rows.length := (List.getElem?_eq_some_iff.mp er).1
        rw [List.length_map, List.length_map, List.length_take] at z1
        omega
      have lt : i < d.rows.length := (List.getElem?_eq_some_iff.mp er).1
      refine ⟨_, n1 _ _ eD, by rw [List.length_map, List.length_map, pl, sizeLine_eq]; omega, ps ++ [(p, ⟨r.z, t, r.a, true, r.ks, r.u⟩)], by rw [upd_same, List.map_append, List.map_append]; rfl, by rw [List.map_append, eP, tk, List.map_append]; rfl, fun q hq => ?_, fun q o e => by rw [upd_ne (ne_of_none e nD)]; exact n1 _ _ (sP _ _ e)⟩
      rcases List.mem_append.mp hq with hq | hq
      · exact ((cP q hq).keep n1).up
      · obtain rfl := List.mem_singleton.mp hq
        exact n2.up
    · rintro H' ⟨ps, eD, eP, cP, sP⟩
      rw [show ((d.rows.map (·.t)).map V.ref).length = d.rows.length by rw [List.length_map, List.length_map], List.take_length] at eP
      have zs : (ps.map (·.2)).map (·.z) = d.rows.map (·.z) := by
        have z1 := congrArg (List.map (·.1)) eP
        rw [List.map_map, List.map_map] at z1
        rw [List.map_map]; exact z1
      have nd : (ps.map (·.2.z)).Nodup := by
        have z2 : ps.map (·.2.z) = d.rows.map (·.z) := by rw [← zs, List.map_map]; rfl
        rw [z2]; exact ok.nd
      refine ⟨D, ps.map (·.1), cpKv ps, rfl, SqL.of eD, paired_cp cP, fun dd ndd => ?_⟩
      rw [cp_merge nd]
      have g1 := same_new (o := .dK (dictOf (ps.map (·.2)))) ndd
      have ed : upd H' dd (.dK (dictOf (ps.map (·.2)))) dd = some (.dK (dictOf (ps.map (·.2)))) := upd_same
      have sF := sP.trans g1
      have cF := fun p hp => (cP p hp).keep g1
      generalize upd H' dd (.dK (dictOf (ps.map (·.2)))) = HF at *
      obtain ⟨so, hs⟩ := sg_is e4 sF
      have ro : RowsOf d (ps.map (·.2)) := by
        refine ⟨by rw [zs], fun x hx => ?_⟩
        obtain ⟨pp, hp, rfl⟩ := List.mem_map.mp hx
        have z1 : cpG pp ∈ d.rows.map tri := eP ▸ List.mem_map_of_mem hp
        obtain ⟨q0, hq, e⟩ := List.mem_map.mp z1
        have a1 : q0.z = pp.2.z := congrArg (·.1) e
        have a2 : q0.ks = pp.2.ks := congrArg (·.2.1) e
        have a3 : q0.u = pp.2.u := congrArg (·.2.2) e
        exact ⟨q0, hq, a1, a3, by rw [a2]⟩
      refine ⟨_, rfl, _, rfl, _, rfl, rfl, rfl, fun z dz nz ndz nez => ?_⟩
      have RR := right_of (K := K) (H := HF) (lv := ⟨lv, true, d.vo⟩) ok ro ed (fun x hx => by
        obtain ⟨pp, hp, rfl⟩ := List.mem_map.mp hx
        have C0 := cF pp hp
        exact ⟨C0.tp, by rw [C0.b_]; exact C0.sq⟩) (show HF lv = some (seqO true d.vo) from sF _ _ e3) (List.Perm.refl _) hs
      refine ⟨z, dz, _, _, _, _, HF, rfl, upd_same, same_new' (same_new ndz) (by rw [upd_ne (Ne.symm nez)]; exact nz), nz, .inl ⟨_, _, _, _, RR, fun H2 c ca m ok2 s2 => ⟨rfl, k z c H2 (ca.wider fun q hq => sF.free hq) ok2 (ctis_of ro (List.Perm.refl _) hs m) (sF.trans s2)⟩⟩⟩
end
end K54C
namespace K54C
open PySem PySem.Spec PyProof.Rows L2 Jg
local macro_rules | `(tactic| walk_at "rd1") => `(tactic| (first
  | refine ⟨_, rfl, ?_⟩
  | refine ⟨_, _, rfl, rfl, ?_⟩
  | refine ⟨_, _, rfl, ?_⟩
  | refine ⟨rfl, ?_⟩
  | (refine ⟨show (0 : Int) < _ by omega, ?_⟩)
  | (refine ⟨Or.inl ⟨by omega, by omega⟩, ?_⟩)
  | (refine ⟨Or.inr ⟨by omega, by omega⟩, ?_⟩)
  | (refine ⟨(⟨by decide, by decide, by decide⟩ : CPow _ _), ?_⟩)
  | refine Or.inl ⟨_, rfl, ?_⟩
  | refine Or.inr ⟨_, rfl, ?_⟩
  | fail "rd"))
local macro_rules | `(tactic| walk_at "rd") => `(tactic| repeat' walk_at "rd1")
/-! ### whether what is told takes what is told -/
end K54C
/-! o[i] = v, o[i], len(o) by the own methods of an instance; they may raise -/
namespace Jg
open PySem PySem.Spec PyProof.Rows L2
/-- o[i] = v by an own __setitem__ -/
def gSubO (C : Addr) (sp : Sp) (E : L2.St → XK) (to ti : TE) : TG := fun v σ H Q => to σ H fun o H1 => ti σ H1 fun i H2 => ∃ a dx fs, o = .ref a ∧ H2 a = some (.ins C dx fs) ∧ sp [.ref a, i, v] H2 (fun w H3 => w = .non ∧ Q σ H3) (E σ)
section
variable {X : Cx} {W : WX} {k j : Nat} {C : Addr} {sp : Sp} {o i e : Expr} {to ti ta tb : TE} {pos : Pos}
theorem pg_subO (c : Met X.prog X.w X.K X.mg X.base (L2.CX X.prog X.w) k C "__setitem__" sp) (ns : PySem.W.noSeq X.K C = true) (tk : Takes X W) (hr : Room j X.A) (hk : k ≤ j) (ho : PE X o to) (hi : PE X i ti)
    (ha : ∀ v, assign (.Subscript o i pos) X.env v = (do
      let ov ← holding [v] (eval o X.env)
      let iv ← holding [v, ov] (eval i X.env)
      standAt pos
      holding [v, ov, iv] (setItem ov iv v)
      release [v, ov, iv] []) := by intro _; rfl) : PG X (.Subscript o i pos) (gSubO C sp (WE W) to ti) := by
  obtain ⟨f, fd, ps, F, at_, fn, kp, b⟩ := c.ex
  refine ⟨fun pins s σ H v u Q I r h => ?_⟩
  rw [ha]
  refine wpAny_bind (wpAny_holding (thn (ho.run pins s σ H _ I h) fun ov s1 ⟨x, H1, I1, r1, q1⟩ => ?_))
  refine wpAny_bind (wpAny_holding (thn (hi.run pins s1 σ H1 _ I1 q1) fun iv s2 ⟨y, H2, I2, r2, a, dx, fs, ex, ea, q2⟩ => ?_))
  subst ex
  obtain rfl : ov = Value.ref a := r1
  obtain ⟨mA, J0, _⟩ := ins_get I2.hok ea
  obtain ⟨od, J, _⟩ := J0.look
  obtain ⟨m, hF⟩ := I2.fr
  refine wpAny_bind (wpAny_standAt (wpAny_bind (wpAny_holding (PySem.W.ksp_setItem hF I2.ok.mod.kin J ns at_ fn ?_))))
  refine wpAny_mono (run_fnS (E := WE W) (us := [.ref a, iv, u]) (vs := [.ref a, y, v]) F (hr.mono hk) b (passAt tk σ) I2 (.cons rfl (.cons r2 (.cons r .nil))) q2) (fun w s3 ⟨x3, H3, I3, r3, e3, q3⟩ => ?_) fun _ _ z => z
  exact wpAny_release ⟨σ, H3, I3, q3⟩
/-- len(o) by an own __len__ that raises nothing -/
def rLenO (C : Addr) (sp : Sp) (E : XK) : List V → Hp → VK → Prop := fun xs H Q => ∃ a dx fs, xs = [.ref a] ∧ H a = some (.ins C dx fs) ∧ sp [.ref a] H (fun v H' => ∃ n : Int, v = .int n ∧ 0 ≤ n ∧ n < 2 ^ 63 ∧ Q (.int n) H') E
theorem call_lenO (c : Met X.prog X.w X.K X.mg X.base CX0 k C "__len__" sp) (hr : Room j X.A) (hk : k + 1 ≤ j) : CallR X (.builtin "len") (rLenO C sp E0) := by
  intro pins s σ H xs us Q I r h
  obtain ⟨a, dx, fs, rfl, ea, q⟩ := h
  obtain rfl := Vals.ref1 r
  obtain ⟨f, fd, ps, F, ini, fn, kp, b⟩ := c.ex
  obtain ⟨mA, J, _⟩ := ins_get I.hok ea
  obtain ⟨od, J, _⟩ := J.look
  obtain ⟨m, hF⟩ := I.fr
  have rv : Vals [V.ref a] [Value.ref a] := .cons rfl .nil
  have ln : [Value.ref a].length = ps.length := rv.length.symm.trans (F.len _ _ _ _ q)
  have bd := b s [Value.ref a] I.kIn (by rw [List.append_nil]; exact ln)
  rw [List.append_nil] at bd
  have rm : Room (k + 1) X.A := hr.mono hk
  have run := F.run X.A.in1 X.stack s H ⟨[Value.ref a], []⟩ _ _ _ E0 rm.in1 I.env0.in1 bd rv q
  refine PySem.W.len_K hF I.ok.mod.kin J ini fn (wpAny_call (codeAny_mono run fun o s2 z => ?_))
  match o, z with
  | .error err, z => exact z.elim
  | .ok (.ret u), z =>
    obtain ⟨v, H2, J3, rv3, n, rfl, h0, h1, q3⟩ := I.after z
    obtain ⟨t, rfl⟩ := (show ∃ t, u = Value.int n t from rv3)
    exact ⟨⟨h0, h1⟩, .int n, H2, J3.tok _, ⟨_, rfl⟩, q3⟩
end
end Jg
/-! sorted(a list of tuples), each with a first text of its own, the rest whatever it is -/
namespace Jg
open PySem PySem.Spec PyProof.Rows L2 PySem.W
end Jg
/-! set(d) of a dict whose keys are texts -/
namespace Jg
open PySem PySem.Spec PyProof.Rows L2
theorem above100 : ∀ n : Fin 101, SetTable.sizeAbove ((0 + n.val) * 2) ≤ sizeLine := by decide +kernel
theorem none_of {n : Nat} : (List.range n).filterMap (fun j => ((Array.replicate n (none : Option Nat)).getD j none).map (j, ·)) = [] := by
  rw [List.filterMap_eq_nil_iff]
  intro j hj
  have h : (Array.replicate n (none : Option Nat)).getD j none = none := by
    rw [Array.getD_eq_getD_getElem?, Array.getElem?_replicate]
    split <;> rfl
  rw [h]
  rfl
theorem laid_none (m f v : Nat) (led pl : Bool) : SetTable.laid m f v led pl #[] = some ({ mask := m, place := #[], dummies := #[], finger := f, led := led, moves := v, plain := pl }, #[]) := by
  unfold SetTable.laid
  have e : SetTable.layClean m #[] = some (Array.replicate (m + 1) none) := rfl
  rw [e]
  show some (SetTable.mk m ((List.range (m + 1)).filterMap (fun j => ((Array.replicate (m + 1) (none : Option Nat)).getD j none).map (j, ·)) |>.map (·.1)).toArray #[] f led v pl, ((List.range (m + 1)).filterMap (fun j => ((Array.replicate (m + 1) (none : Option Nat)).getD j none).map (j, ·)) |>.map (·.2)).toArray) = _
  rw [none_of]
  rfl
section
variable {P : Program} {w : World} {A : Around} {E : Value → Shared → Prop} {s : Shared} {a : Addr}
theorem setW_room {n : Nat} {Q : Unit → Shared → Prop} (R : SetW P w s.heap a []) (few : n ≤ 100) (k : ∀ h', Heap.SameBut a s.heap h' → SetW P w h' a [] → Q () { s with heap := h' }) : wpAny (model P w) A (setRoomFor a n) Q E s := by
  obtain ⟨o, es, ep, t, at_, ex, dt, gd, pm, nd, fw, ft, ri, ld⟩ := id R
  have es0 : es = #[] := by
    have q := pm.length_eq
    rw [List.length_map, Array.length_toList] at q
    exact Array.eq_empty_of_size_eq_zero q
  subst es0
  have pl : t.place.size = 0 := by
    have q := ft
    unfold SetTable.fits at q
    rw [Bool.and_eq_true, beq_iff_eq] at q
    exact q.1
  unfold setRoomFor
  refine wpAny_bind (wpAny_setState_of at_ dt ft ?_)
  dsimp only
  unfold SetTable.roomFor
  split
  · rename_i wanted hw
    split at hw
    · obtain rfl := Option.some.inj hw
      rw [pl]
      rw [setRelay_eq]
      refine wpAny_bind (wpAny_setState_of at_ dt ft ?_)
      dsimp only
      refine wp_if_neg (Nat.not_lt.mpr (above100 ⟨n, by omega⟩)) ?_
      try refine wpAny_bind (wpAny_pure ?_)
      unfold SetTable.relaid
      rw [Array.map_empty, laid_none]
      refine wpAny_bind (wpAny_pure ?_)
      have ft2 : (SetTable.mk (SetTable.sizeAbove ((0 + n) * 2) - 1) #[] #[] t.finger t.led (t.movedTo (SetTable.sizeAbove ((0 + n) * 2) - 1)) t.plain).fits 0 = true := by
        unfold SetTable.fits SetTable.fill
        simp
      refine wpAny_storeSet_of at_ dt (k _ (Heap.SameBut.update _ a _) ⟨_, #[], _, _, store_at (es' := #[]) at_ dt, ex, rfl, gd, pm, nd, fw, ft2, List.Pairwise.nil, ld⟩) (Nat.zero_le _)
    · cases hw
  · exact wpAny_pure (k s.heap (Heap.SameBut.refl a s.heap) R)
theorem pairs_at {ks : List Str} : ∀ {l : List DictEntry} {kvs : List (Key × Value)}, Pairs (mixKind P w) l kvs → kvs.map (·.1) = ks.map Sum.inr → ∀ (i : Nat) (e : DictEntry), l[i]? = some e → ∃ z t, ks[i]? = some z ∧ e.key = .str z t := by
  induction ks with
  | nil =>
    intro l kvs r e i x h
    have : kvs = [] := List.map_eq_nil_iff.mp e
    subst this
    cases r
    simp at h
  | cons z ks ih =>
    intro l kvs r e i x h
    cases r with
    | nil => cases e
    | cons r1 r2 r3 =>
      rw [List.map_cons, List.map_cons] at e
      obtain ⟨e1, e2⟩ := List.cons.inj e
      cases i with
      | zero =>
        obtain rfl := Option.some.inj h
        rw [e1] at r1
        rcases keyIs_shape (k := Sum.inr z) r1 with ⟨j, t, a1, a2⟩ | ⟨y, t, a1, a2⟩
        · cases a1
        · obtain rfl := Sum.inr.inj a1
          exact ⟨z, t, rfl, a2⟩
      | succ i => exact ih r3 e2 i x h
set_option maxHeartbeats 8000000 in
theorem set_of_dict {d : Addr} {kvs : List (Key × Value)} (ks : List Str) {Q : Value → Shared → Prop} (hd : s.heap.DictOf (mixKind P w) d kvs) (nm : (d == sysModules) = false) (hk : kvs.map (·.1) = ks.map Sum.inr) (few : ks.length ≤ 100)
    (h : ∀ s₂, WordsDone P w s ks s₂ → Q (.ref s.heap.objs.size) s₂) : wpAny (model P w) A (call (.type "set") [.ref d]) Q E s := by
  obtain ⟨c, tl, hmro⟩ := F.called_set.mro
  have m1 := F.called_set.made
  have m2 := F.called_set.sub
  have m3 := F.called_set.notType
  have m4 := F.called_set.canCreate
  have m5 := F.typeCall_set_1 (.ref d)
  refine wpAny_call (codeAny_of_tree (show wpAny _ _ (callAny (.type "set") _) _ _ _ from wpAny_pure ⟨Code.quiet_builtin _ (by decide +kernel), codeAny_builtin F.entry_type_call ?_⟩))
  rw [Around.under_plain (weight_type_call_type "set" [.ref d] []) rfl]
  repeat (any_goals (first | assumption | wp_step))
  refine codeAny_mono (code_set_led1 (.ref d) (E := E) (Q₁ := fun obj s₁ => obj = .ref s.heap.objs.size ∧ s₁ = { s with heap := s.heap.push (mtSet w) }) ⟨rfl, rfl⟩) fun r s₁ hr => ?_
  match r, hr with
  | .error e, hr => exact hr
  | .ok (.ret obj), hr =>
    obtain ⟨rfl, rfl⟩ := hr
    have new := mt_at w s.heap
    have ty : Shared.TypeIs { s with heap := s.heap.push (mtSet w) } (.ref s.heap.objs.size) "set" := ⟨_, new, rfl⟩
    have m6 := F.called_set.init.lookup
    have m7 := F.called_set.init.bind (.ref s.heap.objs.size)
    repeat (any_goals (first | assumption | wp_step))
    refine codeAny_mono (codeAny_call_builtin (R := wants (fun r s₂ => r = .none ∧ WordsDone P w s ks s₂) E) F.called_set.init.plain F.entry_set_init (check_set_init_1 ty ?_)) fun r₂ s₂ hr₂ => ?_
    · obtain ⟨od, es, ep, at_, ⟨c1, c2, c3⟩, dd, keys, prs, nd⟩ := hd
      obtain ⟨ocls, odict, odata, oslots⟩ := od
      simp only at c1 c2 c3 dd
      subst c1; subst c2; subst c3; subst dd
      have lt : d < s.heap.objs.size := Heap.lt_size at_
      have old : (s.heap.push (mtSet w)).get? d = some { cls := .type "dict", dict := none, data := .dict es ep, slots := #[] } := Heap.get?_push_of_some _ at_
      have n1 := F.sub_dict_set
      have n2 := F.sub_dict_frozenset
      have sz : (s.heap.push (mtSet w)).objs.size = s.heap.objs.size + 1 := Heap.size_push ..
      unfold Builtin.«set.__init__» noKeywords Builtin.Frozenset.updateFrom
      generalize hRF : setRoomFor = RF
      wp_walk
      subst hRF
      have size_ks : es.size = ks.length := by
        have q := congrArg List.length hk
        rw [List.length_map, List.length_map, ← prs.length, Array.length_toList] at q
        exact q
      have W0 : SetW P w (s.heap.push (mtSet w)) s.heap.objs.size [] := setW_new new
      have apart : d ≠ s.heap.objs.size := Nat.ne_of_lt lt
      refine setW_room (s := { s with heap := s.heap.push (mtSet w) }) W0 (by omega) fun h1 sb1 W1 => ?_
      have old1 : h1.get? d = some { cls := .type "dict", dict := none, data := .dict es ep, slots := #[] } := by
        rw [sb1.2 d apart]; exact old
      have keep1 : ∀ b o, s.heap.get? b = some o → h1.get? b = some o := fun b o e => by
        rw [sb1.2 b (Nat.ne_of_lt (Heap.lt_size e))]; exact Heap.get?_push_of_some _ e
      refine wpAny_bind (wpAny_dictEntries old1 rfl ?_)
      refine wpAny_bind (SeqAt.wpAny_forIn_span 0 es.size _ (fun i _ q => ∃ h', q = { s with heap := h' } ∧ SetW P w h' s.heap.objs.size (onceW (ks.take i)) ∧ h'.get? d = some { cls := .type "dict", dict := none, data := .dict es ep, slots := #[] } ∧ ∀ b o, s.heap.get? b = some o → h'.get? b = some o) _ ?_ ?_ _ ⟨h1, rfl, W1, old1, keep1⟩)
      · rintro i ⟨⟩ q _ hi ⟨h', rfl, W, hd', keep'⟩
        refine wpAny_bind (wpAny_dictEntries hd' rfl ?_)
        have hi2 : i < es.toList.length := by rw [Array.length_toList]; exact hi
        have he : es[i]? = some es[i] := Array.getElem?_eq_getElem hi
        rw [he]
        dsimp only
        obtain ⟨z, tk, ez, ek⟩ := pairs_at prs hk i es[i] (by rw [Array.getElem?_toList]; exact he)
        obtain ⟨k0, hk1, hk2⟩ := keys es[i] (by simp)
        rw [ek] at hk1
        have hz : es[i].hash = (strKind P w).hash z := by
          rcases keyIs_shape (k := k0) hk1 with ⟨j, t, a1, a2⟩ | ⟨y, t, a1, a2⟩
          · cases a2
          · cases a2
            rw [hk2, a1]
            rfl
        rw [ek, hz]
        have room : (onceW (ks.take i)).length + 1 < scanBound := by
          have h1 := onceW_len (ks.take i)
          have h2 : (100 : Nat) + 1 < scanBound := by decide
          rw [List.length_take] at h1
          omega
        refine wpAny_bind (wpAny_holding (setW_add (s := { s with heap := h' }) W room fun b h2 sb W3 => ?_))
        have nx : (if z ∈ onceW (ks.take i) then onceW (ks.take i) else z :: onceW (ks.take i)) = onceW (ks.take (i + 1)) := by
          have e1 : ks.take (i + 1) = ks.take i ++ [z] := by rw [List.take_add_one, ez]; rfl
          rw [e1]
          unfold onceW
          rw [List.foldl_append]
          rfl
        rw [nx] at W3
        have hd2 : h2.get? d = some { cls := .type "dict", dict := none, data := .dict es ep, slots := #[] } := by
          rw [sb.2 d apart]; exact hd'
        refine wpAny_bind (wpAny_dictEpoch hd2 rfl ?_)
        refine wp_if_neg (by simp) (wpAny_pure ⟨h2, rfl, W3, hd2, fun b o e => ?_⟩)
        rw [sb.2 b (Nat.ne_of_lt (Heap.lt_size e))]
        exact keep' b o e
      · rintro ⟨⟩ q ⟨h', rfl, W, hd', keep'⟩
        have all : ks.take (max 0 es.size) = ks := List.take_of_length_le (by omega)
        rw [all] at W
        exact wpAny_pure (wpAny_pure ⟨rfl, h', _, rfl, W, keep'⟩)
    · match r₂, hr₂ with
      | .error e, hr₂ => exact hr₂
      | .ok (.ret r), hr₂ =>
        obtain ⟨rfl, done⟩ := hr₂
        repeat (any_goals (first | assumption | wp_step))
        exact h _ done
end
section
variable {X : Cx}
/-- set(d) of a dict of texts -/
def rSetWD (X : Cx) : List V → Hp → VK → Prop := fun xs H Q => ∃ (a : Addr) (kvs : List (Key × V)) (ks : List Str), xs = [.ref a] ∧ H a = some (.dK kvs) ∧ kvs.map (·.1) = ks.map Sum.inr ∧ ks.length ≤ 100 ∧ ∀ p, H p = none → Q (.ref p) (upd H p (SetWO X.prog X.w p (onceW ks)))
theorem cr_setWD : CallR X (.type "set") (rSetWD X) := by
  intro pins s σ H xs us Q I r h
  obtain ⟨a, kvs, ks, rfl, hs, hk, few, q⟩ := h
  obtain ⟨u, rfl, ru⟩ := vals1 r
  cases ru
  obtain ⟨_, nm, vs, rel, dd⟩ := dk_of I.hok hs
  refine set_of_dict ks dd nm (by rw [← rel.keys]; exact hk) few fun s₂ ⟨h', tk, e, R, k⟩ => ?_
  subst e
  exact ⟨.ref s.heap.objs.size, _, I.laid (t' := tk) k (Nat.le_refl _) (setW_ok R), rfl, q _ (I.hok.fresh (Nat.le_refl _))⟩
/-- dict(d): a copy, of a dict that may be under a walk -/
def rCopyD : List V → Hp → VK → Prop := fun xs H Q => ∃ (a : Addr) (kvs : List (Key × V)), xs = [.ref a] ∧ Rd H a (.dK kvs) ∧ ∀ p, H p = none → Q (.ref p) (upd H p (.dK kvs))
theorem cr_copyD : CallR X (.type "dict") rCopyD := by
  intro pins s σ H xs us Q I r h
  obtain ⟨a, kvs, rfl, e, q⟩ := h
  obtain rfl := Vals.ref1 r
  exact d_copyOf I e fun p s' np I' => ⟨.ref p, _, I', rfl, q p np⟩
end
end Jg
namespace K54F
open PySem PySem.Spec PyProof.Rows L2 Jg
local macro_rules | `(tactic| walk_at "rd1") => `(tactic| (first
  | refine ⟨_, rfl, ?_⟩
  | refine ⟨_, _, rfl, rfl, ?_⟩
  | refine ⟨_, _, rfl, ?_⟩
  | refine ⟨rfl, ?_⟩
  | (refine ⟨show (0 : Int) < _ by omega, ?_⟩)
  | (refine ⟨Or.inl ⟨by omega, by omega⟩, ?_⟩)
  | (refine ⟨Or.inr ⟨by omega, by omega⟩, ?_⟩)
  | (refine ⟨(⟨by decide, by decide, by decide⟩ : CPow _ _), ?_⟩)
  | refine Or.inl ⟨_, rfl, ?_⟩
  | refine Or.inr ⟨_, rfl, ?_⟩
  | fail "rd"))
local macro_rules | `(tactic| walk_at "rd") => `(tactic| repeat' walk_at "rd1")
def top (i : Nat) : Stmt := PySem.Challenge.pw_gaplesskeys_k54_wrong_taking_back.main.body.getD i (.Pass ⟨0, 0, 0, 0⟩)
def L : Int := 10 ^ 30
theorem L_eq : L = 1000000000000000000000000000000 := by decide +kernel
/-! ### the data of a kind -/
structure Kd where
  g : Int
  a : Option Int
  s : Option Str
def oV : Option Int → V
  | none => .non
  | some i => .int i
def sV : Option Str → V
  | none => .non
  | some z => .str z
def kf (u v s : V) : List (Str × V) := [("_gap", u), ("_age", v), ("_source", s)]
def kflds (r : Kd) : List (Str × V) := kf (.int r.g) (oV r.a) (sV r.s)
theorem kga : ¬ (("_gap" : Str) = "_age") := by decide +kernel
theorem kgs : ¬ (("_gap" : Str) = "_source") := by decide +kernel
theorem kas : ¬ (("_age" : Str) = "_source") := by decide +kernel
theorem put_a (u v : V) : putF "_age" v [(("_gap" : Str), u)] = [(("_gap" : Str), u), ("_age", v)] := by
  show (if ("_gap" : Str) = "_age" then _ else _) = _
  rw [if_neg kga]; rfl
theorem put_s (u v s : V) : putF "_source" s [(("_gap" : Str), u), ("_age", v)] = kf u v s := by
  show (if ("_gap" : Str) = "_source" then _ else _ :: (if ("_age" : Str) = "_source" then _ else _)) = _
  rw [if_neg kgs, if_neg kas]; rfl
theorem get_g (u v s : V) : (kf u v s).lookup ("_gap" : Str) = some u := by
  have e : ((("_gap" : Str)) == ("_gap" : Str)) = true := by decide +kernel
  simp only [kf, List.lookup, e]
theorem get_a (u v s : V) : (kf u v s).lookup ("_age" : Str) = some v := by
  have e1 : ((("_age" : Str)) == ("_gap" : Str)) = false := by decide +kernel
  have e2 : ((("_age" : Str)) == ("_age" : Str)) = true := by decide +kernel
  simp only [kf, List.lookup, e1, e2]
theorem get_s (u v s : V) : (kf u v s).lookup ("_source" : Str) = some s := by
  have e1 : ((("_source" : Str)) == ("_gap" : Str)) = false := by decide +kernel
  have e2 : ((("_source" : Str)) == ("_age" : Str)) = false := by decide +kernel
  have e3 : ((("_source" : Str)) == ("_source" : Str)) = true := by decide +kernel
  simp only [kf, List.lookup, e1, e2, e3]
/-- a kind stands at p -/
def KAt (C : Addr) (H : Hp) (p : Addr) (r : Kd) : Prop := ∃ dx, H p = some (.ins C dx (kflds r))
/-- what the walk asks of the text -/
structure Txt (K : PySem.W.Frag) (mg : Str → Option Value) (C : Addr) : Prop where
  cl : Cls K C
  ng : NoAttr K C "_gap"
  na : NoAttr K C "_age"
  ns : NoAttr K C "_source"
  cKind : mg "Kind" = some (.ref C)
  gLONGEST : ∃ u, mg "LONGEST" = some u ∧ L2.RelV (.int L) u
  b_isinstance : mg "isinstance" = none
  b_int : mg "int" = none
  b_bool : mg "bool" = none
  b_str : mg "str" = none
  b_tuple : mg "tuple" = none
  b_len : mg "len" = none
  b_max : mg "max" = none
  b_min : mg "min" = none
  b_range : mg "range" = none
  b_repr : mg "repr" = none
  gMOST_KINDS : ∃ u, mg "MOST_KINDS" = some u ∧ L2.RelV (.int 5) u
  g_LONGEST_CHAIN : ∃ u, mg "_LONGEST_CHAIN" = some u ∧ L2.RelV (.int 4) u
  b_any : mg "any" = none
  b_set : mg "set" = none
  b_dict : mg "dict" = none
  b_list : mg "list" = none
  b_sorted : mg "sorted" = none
  cls_ : PySem.W.findIn K (.ref C) "__class__" = some (some (.builtin "object.__class__"))
  cgt : PySem.W.specialIn K (.builtin "object.__class__") "__get__" = some (some (.builtin "getset_descriptor.__get__"))
  ctk : PySem.W.takesIn K (.builtin "object.__class__") = some true
  mro : PySem.W.mroIn K C (.type "object") = some true
  ne : PySem.W.findIn K (.ref C) "__ne__" = some (some (.builtin "object.__ne__"))
  kCC : PySem.W.kitOne K (.ref C) (.ref C) = some true
  kN : PySem.W.kitOne K (.type "NoneType") (.ref C) = some false
  kI : PySem.W.kitOne K (.type "int") (.ref C) = some false
  kS : PySem.W.kitOne K (.type "str") (.ref C) = some false
  kL : PySem.W.kitOne K (.type "list") (.ref C) = some false
  kT : PySem.W.kitOne K (.type "tuple") (.ref C) = some false
  kD : PySem.W.kitOne K (.type "dict") (.ref C) = some false
  oCC : PySem.W.notFirst K C (.ref C) = true
  oN : PySem.W.notFirst K C (.type "NoneType") = true
  oI : PySem.W.notFirst K C (.type "int") = true
  oS : PySem.W.notFirst K C (.type "str") = true
  oL : PySem.W.notFirst K C (.type "list") = true
  oT : PySem.W.notFirst K C (.type "tuple") = true
  oD : PySem.W.notFirst K C (.type "dict") = true
/-- what the walk asks of the class Fleet, of the small numbers and of the built-in names -/
structure FTx (K : PySem.W.Frag) (mg : Str → Option Value) (F : Addr) : Prop where
  cl : Cls K F
  nk : NoAttr K F "_kinds"
  nc : NoAttr K F "_calls"
  cFleet : mg "Fleet" = some (.ref F)
  ns : PySem.W.noSeq K F = true
  fn : ∀ f, PySem.W.findIn K (.ref F) "__getitem__" = some (some (.ref f)) → PySem.W.fnIn K f = true
section
variable {K : PySem.W.Frag} {mg : Str → Option Value} {C : Addr}
theorem Txt.ty (T : Txt K mg C) {H : Hp} {p : Addr} {r : Kd} (h : KAt C H p r) : TyX K H (.ref p) (.ref C) :=
  let ⟨_, e⟩ := h
  .base (.ins e T.cl T.cls_ T.cgt T.ctk T.mro)
end
theorem same_new {H : Hp} {p : Addr} {o : HO} (h : H p = none) : Same H (upd H p o) := fun b u e => by rw [upd_ne (ne_of_none e h)]; exact e
theorem same_new' {H H1 : Hp} {p : Addr} {o : HO} (s : Same H H1) (h : H1 p = none) : Same H (upd H1 p o) := s.trans (same_new h)
theorem same_mut {H H1 : Hp} {p : Addr} {o : HO} (s : Same H H1) (h : H p = none) : Same H (upd H1 p o) := fun b u e => by rw [upd_ne (ne_of_none e h)]; exact s b u e
/-! ### promises -/
abbrev kit (K : PySem.W.Frag) (t : Value) (n : String) (b : Bool) : Prop := PySem.W.kitOne K t (.type n) = some b
theorem kii {K : PySem.W.Frag} : kit K (.type "int") "int" true := kit_ty (by decide +kernel)
theorem kib {K : PySem.W.Frag} : kit K (.type "int") "bool" false := kit_ty (by decide +kernel)
/-- no integer, whatever comes -/
def NoInt (K : PySem.W.Frag) (H : Hp) (y : V) : Prop := ∃ t b1 b2, (∀ H', Same H H' → TyX K H' y t) ∧ kit K t "int" b1 ∧ (b1 = true → kit K t "bool" b2) ∧ (b1 && !b2) = false
def BadR (K : PySem.W.Frag) (H : Hp) (lo hi : Int) (y : V) : Prop := (∃ i, y = .int i ∧ (decide (lo ≤ i) && decide (i ≤ hi)) = false) ∨ NoInt K H y
def wordB (z : Str) : Bool := decide (z.length ≤ 8) && (PySem.Txt.isascii z && (PySem.Txt.isalpha z && PySem.Txt.islower z))
def BadW (K : PySem.W.Frag) (H : Hp) (y : V) : Prop := (∃ z, y = .str z ∧ z.length ≤ sizeLine ∧ wordB z = false) ∨ ∃ t, (∀ H', Same H H' → TyX K H' y t) ∧ kit K t "str" false
theorem NoInt.keep {K : PySem.W.Frag} {H H' : Hp} {y : V} (h : NoInt K H y) (s : Same H H') : NoInt K H' y :=
  let ⟨t, b1, b2, ty, r⟩ := h
  ⟨t, b1, b2, fun H2 s2 => ty H2 (s.trans s2), r⟩
theorem BadR.keep {K : PySem.W.Frag} {H H' : Hp} {lo hi : Int} {y : V} (h : BadR K H lo hi y) (s : Same H H') : BadR K H' lo hi y := h.elim .inl fun z => .inr (z.keep s)
theorem BadW.keep {K : PySem.W.Frag} {H H' : Hp} {y : V} (h : BadW K H y) (s : Same H H') : BadW K H' y := h.elim .inl fun ⟨t, ty, r⟩ => .inr ⟨t, fun H2 s2 => ty H2 (s.trans s2), r⟩
def aOk (a : Option Int) : Prop := ∀ i, a = some i → 0 ≤ i ∧ i ≤ L
def sOk (s : Option Str) : Prop := ∀ z, s = some z → z.length ≤ sizeLine ∧ wordB z = true
def gG (y : V) : Prop := ∃ g : Int, y = .int g ∧ 1 ≤ g ∧ g ≤ L
def gA (y : V) : Prop := ∃ a, y = oV a ∧ aOk a
def gS (y : V) : Prop := ∃ s, y = sV s ∧ sOk s
def bG (K : PySem.W.Frag) (H : Hp) (y : V) : Prop := BadR K H 1 L y
def bA (K : PySem.W.Frag) (H : Hp) (y : V) : Prop := y ≠ .non ∧ BadR K H 0 L y
def bS (K : PySem.W.Frag) (H : Hp) (y : V) : Prop := y ≠ .non ∧ BadW K H y
structure KOk (r : Kd) : Prop where
  g : 1 ≤ r.g ∧ r.g ≤ L
  a : aOk r.a
  s : sOk r.s
def spIsInt (K : PySem.W.Frag) : Sp := fun vs H Q _ => ∃ x t b1 b2, vs = [x] ∧ TyX K H x t ∧ kit K t "int" b1 ∧ (b1 = true → kit K t "bool" b2) ∧ Q (.bl (b1 && !b2)) H
def spBtwn (K : PySem.W.Frag) : Sp := fun vs H Q _ => ∃ y lo hi, vs = [y, .int lo, .int hi] ∧ ((∃ i, y = .int i ∧ Q (.bl (decide (lo ≤ i) && decide (i ≤ hi))) H) ∨ (NoInt K H y ∧ Q (.bl false) H))
def spWord (K : PySem.W.Frag) : Sp := fun vs H Q _ => ∃ y, vs = [y] ∧ ((∃ z, y = .str z ∧ z.length ≤ sizeLine ∧ Q (.bl (wordB z)) H) ∨ (∃ t, TyX K H y t ∧ kit K t "str" false ∧ Q (.bl false) H))
def spChk (good : V → Prop) (bad : Hp → V → Prop) (CI : Addr) : Sp := fun vs H Q E => ∃ y, vs = [y] ∧ ((good y ∧ Q y H) ∨ (bad H y ∧ ∀ d, H d = none → E (.ref CI) (some d) (upd H d (.xd [(("value" : Str), y)]))))
section
variable {P : Program} {w : World} {K : PySem.W.Frag} {mg : Str → Option Value} {base : Heap} {C : Addr}
abbrev s_is_integer : Stmt := top 15
theorem sc_is_integer : FnScope ["value"] ["value"] (defScope s_is_integer) := ⟨rfl, rfl, rfl, by decide +kernel, rfl, by decide +kernel, by decide +kernel⟩
theorem ok_is_integer (D : DefK K mg "is_integer" s_is_integer) (T : Txt K mg C) : Cal P w K mg base CX0 1 "is_integer" (spIsInt K) := by
  refine D.cal sc_is_integer (fun _ _ _ _ _ _ us hl => match us, hl with | [_], _ => rfl) (fun vs H Q E h => ?_) fun f cdv A outer s H vs Q E hr h => ?_
  · obtain ⟨x, t, b1, b2, rfl, _⟩ := h; rfl
  · obtain ⟨x, t, b1, b2, rfl, ty, k1, k2, q⟩ := h
    refine ⟨_, (pss_one (ps_ret (pe_and (pe_callB call_isi (by rfl) T.b_isinstance (by decide +kernel) (pa_cons (pv 0) (pa_cons (pe_ty (n := "int") (by rfl) T.b_int (by decide +kernel)) pa_nil))) (pe_one (pe_not (pe_callB call_isi (by rfl) T.b_isinstance (by decide +kernel) (pa_cons (pv 0) (pa_cons (pe_ty (n := "bool") (by rfl) T.b_bool (by decide +kernel)) pa_nil)))))))), ?_⟩
    refine ⟨_, rfl, x, .ty "int", t, _, b1, rfl, .ty "int", ty, k1, b1, rfl, ?_⟩
    cases b1 with
    | false => exact iteF q
    | true => exact iteT ⟨_, rfl, x, .ty "bool", t, _, b2, rfl, .ty "bool", ty, k2 rfl, b2, rfl, q⟩
abbrev s_is_between : Stmt := top 17
theorem sc_is_between : FnScope ["value", "least", "most"] ["value", "least", "most"] (defScope s_is_between) := ⟨rfl, rfl, rfl, by decide +kernel, rfl, by decide +kernel, by decide +kernel⟩
theorem ok_is_between (D : DefK K mg "is_between" s_is_between) (T : Txt K mg C) (G_is_integer : Cal P w K mg base CX0 1 "is_integer" (spIsInt K)) : Cal P w K mg base CX0 2 "is_between" (spBtwn K) := by
  refine D.cal sc_is_between (fun _ _ _ _ _ _ us hl => match us, hl with | [_, _, _], _ => rfl) (fun vs H Q E h => ?_) fun f cdv A outer s H vs Q E hr h => ?_
  · obtain ⟨y, lo, hi, rfl, _⟩ := h; rfl
  · obtain ⟨y, lo, hi, rfl, h⟩ := h
    refine ⟨_, (pss_one (ps_ret (pe_and (pe_c G_is_integer hr (by decide) rfl (pa_cons (pv 0) pa_nil)) (pe_one (pe_chain op_le op_le (pv 1) (pv 0) (pv 2)))))), ?_⟩
    rcases h with ⟨i, rfl, q⟩ | ⟨⟨t, b1, b2, ty, k1, k2, e⟩, q⟩
    · refine ⟨_, rfl, .int i, _, true, false, rfl, .base (.int i), kii, fun _ => kib, true, rfl, iteT ?_⟩
      refine ⟨_, rfl, _, rfl, lo, i, rfl, rfl, _, rfl, ?_⟩
      by_cases c : lo ≤ i
      · rw [decide_eq_true c]
        refine iteT ⟨_, rfl, i, hi, rfl, rfl, ?_⟩
        rw [decide_eq_true c] at q
        exact q
      · rw [decide_eq_false c]
        rw [decide_eq_false c] at q
        exact iteF q
    · refine ⟨_, rfl, y, t, b1, b2, rfl, ty H (.refl H), k1, k2, _, rfl, ?_⟩
      rw [e]
      exact iteF q
abbrev s_is_word : Stmt := top 21
theorem sc_is_word : FnScope ["value"] ["value"] (defScope s_is_word) := ⟨rfl, rfl, rfl, by decide +kernel, rfl, by decide +kernel, by decide +kernel⟩
theorem ok_is_word (D : DefK K mg "is_word" s_is_word) (T : Txt K mg C) : Cal P w K mg base CX0 1 "is_word" (spWord K) := by
  refine D.cal sc_is_word (fun _ _ _ _ _ _ us hl => match us, hl with | [_], _ => rfl) (fun vs H Q E h => ?_) fun f cdv A outer s H vs Q E hr h => ?_
  · obtain ⟨y, rfl, _⟩ := h; rfl
  · obtain ⟨y, rfl, h⟩ := h
    refine ⟨_, (pss_cons (ps_if (PW.pt (pw_or (pt_not (pt_val (pe_callB call_isi (by rfl) T.b_isinstance (by decide +kernel) (pa_cons (pv 0) (pa_cons (pe_ty (n := "str") (by rfl) T.b_str (by decide +kernel)) pa_nil))))) (pw_or1 (pt_cmpR op_gt (pe_callB call_len_str (by rfl) T.b_len (by decide +kernel) (pa_cons (pv 0) pa_nil)) pe_int (nomark _))))) (pss_one (ps_ret pe_bl)) pss_nil)
      (pss_one (ps_ret (pe_and (pe_m0 F.slot_str_isascii F.type_str_isascii mt_isascii (pv 0)) (pe_and (pe_m0 F.slot_str_isalpha F.type_str_isalpha mt_isalpha (pv 0)) (pe_one (pe_m0 F.slot_str_islower F.type_str_islower mt_islower (pv 0)))))))), ?_⟩
    rcases h with ⟨z, rfl, hz, q⟩ | ⟨t, ty, k, q⟩
    · refine ⟨_, rfl, .str z, .ty "str", _, _, true, rfl, .ty "str", .base (.str z), kit_ty (by decide +kernel), _, rfl, iteF ?_⟩
      refine ⟨_, rfl, z, rfl, hz, _, _, rfl, rfl, _, rfl, ?_⟩
      unfold wordB at q
      by_cases c : z.length ≤ 8
      · refine iteFe (decide_eq_false (by omega)) ?_
        rw [decide_eq_true c] at q
        refine ⟨_, rfl, ⟨_, rfl⟩, z, rfl, rfl, trivial, _, rfl, ?_⟩
        cases h1 : PySem.Txt.isascii z with
        | false => rw [h1] at q; exact iteF q
        | true =>
          rw [h1] at q
          refine iteT ⟨_, rfl, ⟨_, rfl⟩, z, rfl, rfl, trivial, _, rfl, ?_⟩
          cases h2 : PySem.Txt.isalpha z with
          | false => rw [h2] at q; exact iteF q
          | true =>
            rw [h2] at q
            exact iteT ⟨_, rfl, ⟨_, rfl⟩, z, rfl, rfl, trivial, q⟩
      · refine iteTe (decide_eq_true (by omega)) ?_
        rw [decide_eq_false c] at q
        exact q
    · exact ⟨_, rfl, y, .ty "str", t, _, false, rfl, .ty "str", ty, k, _, rfl, iteT q⟩
end
end K54F
namespace K54F
open PySem PySem.Spec PyProof.Rows L2 Jg
local macro_rules | `(tactic| walk_at "rd1") => `(tactic| (first
  | refine ⟨_, rfl, ?_⟩
  | refine ⟨_, _, rfl, rfl, ?_⟩
  | refine ⟨_, _, rfl, ?_⟩
  | refine ⟨rfl, ?_⟩
  | (refine ⟨show (0 : Int) < _ by omega, ?_⟩)
  | (refine ⟨Or.inl ⟨by omega, by omega⟩, ?_⟩)
  | (refine ⟨Or.inr ⟨by omega, by omega⟩, ?_⟩)
  | (refine ⟨(⟨by decide, by decide, by decide⟩ : CPow _ _), ?_⟩)
  | refine Or.inl ⟨_, rfl, ?_⟩
  | refine Or.inr ⟨_, rfl, ?_⟩
  | fail "rd"))
local macro_rules | `(tactic| walk_at "rd") => `(tactic| repeat' walk_at "rd1")
/-! ### what is raised -/
structure ExnQ (K : PySem.W.Frag) (mg : Str → Option Value) (x : Str) (CI : Addr) (qual : Str) (st : Stmt) (f : Str) : Prop where
  mg_ : mg x = some (.ref CI)
  ovr : Ovr K CI
  xk : ExcK K CI
  no : PySem.W.findIn K (.ref CI) f = some none
  ini : ∃ fI fd, Fun K "__init__" qual st fI fd ∧ PySem.W.findIn K (.ref CI) "__init__" = some (some (.ref fI)) ∧ PySem.W.typeIn K (.ref fI) = some (.type "function")
  te : PySem.W.exmOne K (.ref CI) (.ref CI) = some true
/-- __init__ of a kind that is being made -/
def spKInit (K : PySem.W.Frag) (C CI : Addr) : Sp := fun vs H Q E => ∃ x dx u v s H0, vs = [.ref x, u, v, s] ∧ H x = some (.ins C dx []) ∧ Same H0 H ∧ H0 x = none ∧
  ((∃ r : Kd, u = .int r.g ∧ v = oV r.a ∧ s = sV r.s ∧ KOk r ∧ ∀ H', KAt C H' x r → (∀ b o, H b = some o → b ≠ x → H' b = some o) → Q .non H') ∨
   (∃ y, ((y = u ∧ bG K H0 u) ∨ (y = v ∧ gG u ∧ bA K H0 v) ∨ (y = s ∧ gG u ∧ gA v ∧ bS K H0 s)) ∧ ∀ d H', H0 d = none → H' d = some (.xd [(("value" : Str), y)]) → Same H0 H' → E (.ref CI) (some d) H'))
section
variable {P : Program} {w : World} {K : PySem.W.Frag} {mg : Str → Option Value} {base : Heap} {C CI CU : Addr}
abbrev s_InvalidKind_init : Stmt := inClass (top 7) 0
theorem sc_InvalidKind_init : FnScope ["self", "value"] ["self", "value"] (defScope s_InvalidKind_init) := ⟨rfl, rfl, rfl, by decide +kernel, rfl, by decide +kernel, by decide +kernel⟩
theorem ok_kinit (D : ExnQ K mg "InvalidKind" CI "InvalidKind.__init__" s_InvalidKind_init "value") : ExnB P w K mg base 1 "InvalidKind" CI (spX CI "value") := by
  obtain ⟨fI, fd, F, a, ty⟩ := D.ini
  refine ⟨D.mg_, D.ovr, fI, fd, _, F.ok sc_InvalidKind_init (fun vs H Q E h => ?_) (fun cdv A outer s H vs Q E hr h => ?_), a, ty, F.binds (fun _ _ _ _ _ _ us hl => match us, hl with | [_, _], _ => rfl)⟩
  · obtain ⟨a, y, rfl, _⟩ := h; rfl
  · obtain ⟨a, y, rfl, ha, k⟩ := h
    exact ⟨_, (pss_one (ps_keep (pv 0) (pv 1))), _, rfl, _, rfl, a, CI, rfl, D.ovr, D.no, ha, fun dx n e => k dx n e⟩
abbrev s_UnknownName_init : Stmt := inClass (top 9) 0
theorem sc_UnknownName_init : FnScope ["self", "name"] ["self", "name"] (defScope s_UnknownName_init) := ⟨rfl, rfl, rfl, by decide +kernel, rfl, by decide +kernel, by decide +kernel⟩
theorem ok_uinit (D : ExnQ K mg "UnknownName" CU "UnknownName.__init__" s_UnknownName_init "name") : ExnB P w K mg base 1 "UnknownName" CU (spX CU "name") := by
  obtain ⟨fI, fd, F, a, ty⟩ := D.ini
  refine ⟨D.mg_, D.ovr, fI, fd, _, F.ok sc_UnknownName_init (fun vs H Q E h => ?_) (fun cdv A outer s H vs Q E hr h => ?_), a, ty, F.binds (fun _ _ _ _ _ _ us hl => match us, hl with | [_, _], _ => rfl)⟩
  · obtain ⟨a, y, rfl, _⟩ := h; rfl
  · obtain ⟨a, y, rfl, ha, k⟩ := h
    exact ⟨_, (pss_one (ps_keep (pv 0) (pv 1))), _, rfl, _, rfl, a, CU, rfl, D.ovr, D.no, ha, fun dx n e => k dx n e⟩
abbrev s_checked_gap : Stmt := top 79
theorem sc_checked_gap : FnScope ["value"] ["value"] (defScope s_checked_gap) := ⟨rfl, rfl, rfl, by decide +kernel, rfl, by decide +kernel, by decide +kernel⟩
theorem ok_cg (D : DefK K mg "_checked_gap" s_checked_gap) (T : Txt K mg C) (G_is_between : Cal P w K mg base CX0 2 "is_between" (spBtwn K)) (G_InvalidKind : ExnB P w K mg base 1 "InvalidKind" CI (spX CI "value")) : Cal P w K mg base (L2.CX P w) 3 "_checked_gap" (spChk gG (bG K) CI) := by
  refine D.calX sc_checked_gap (fun _ _ _ _ _ _ us hl => match us, hl with | [_], _ => rfl) (fun vs H Q E h => ?_) fun f cdv A outer s H vs Q E hr h => ?_
  · obtain ⟨y, rfl, _⟩ := h; rfl
  · obtain ⟨y, rfl, h⟩ := h
    refine ⟨_, (pss_cons (ps_if (pt_not (pt_val (pe_c G_is_between hr (by decide) rfl (pa_cons (pv 0) (pa_cons pe_int (pa_cons (pe_gc rfl T.gLONGEST) pa_nil)))))) (pss_one (ps_raise rfl (takes_of rfl rfl rfl rfl) (pmk_b G_InvalidKind hr (by decide) rfl (pa_cons (pv 0) pa_nil)))) pss_nil)
      (pss_one (ps_ret (pv 0)))), ?_⟩
    rcases h with ⟨⟨g, rfl, g1, g2⟩, q⟩ | ⟨bad, k⟩
    · refine ⟨_, rfl, .int g, 1, L, rfl, .inl ⟨g, rfl, _, rfl, ?_⟩⟩
      rw [decide_eq_true g1, decide_eq_true g2]
      exact iteF ⟨_, rfl, q⟩
    · rcases bad with ⟨i, rfl, e⟩ | no
      · refine ⟨_, rfl, .int i, 1, L, rfl, .inl ⟨i, rfl, _, rfl, ?_⟩⟩
        rw [e]
        exact iteT ⟨_, rfl, x_read fun d nd => k d nd⟩
      · exact ⟨_, rfl, y, 1, L, rfl, .inr ⟨no, _, rfl, iteT ⟨_, rfl, x_read fun d nd => k d nd⟩⟩⟩
abbrev s_checked_age : Stmt := top 80
theorem sc_checked_age : FnScope ["value"] ["value"] (defScope s_checked_age) := ⟨rfl, rfl, rfl, by decide +kernel, rfl, by decide +kernel, by decide +kernel⟩
theorem ok_ca (D : DefK K mg "_checked_age" s_checked_age) (T : Txt K mg C) (G_is_between : Cal P w K mg base CX0 2 "is_between" (spBtwn K)) (G_InvalidKind : ExnB P w K mg base 1 "InvalidKind" CI (spX CI "value")) : Cal P w K mg base (L2.CX P w) 3 "_checked_age" (spChk gA (bA K) CI) := by
  refine D.calX sc_checked_age (fun _ _ _ _ _ _ us hl => match us, hl with | [_], _ => rfl) (fun vs H Q E h => ?_) fun f cdv A outer s H vs Q E hr h => ?_
  · obtain ⟨y, rfl, _⟩ := h; rfl
  · obtain ⟨y, rfl, h⟩ := h
    refine ⟨_, (pss_cons (ps_if (PW.pt (pw_and (pt_cmpR op_notN (pv 0) pe_non (nomark _)) (pw_and1 (pt_not (pt_val (pe_c G_is_between hr (by decide) rfl (pa_cons (pv 0) (pa_cons pe_int (pa_cons (pe_gc rfl T.gLONGEST) pa_nil))))))))) (pss_one (ps_raise rfl (takes_of rfl rfl rfl rfl) (pmk_b G_InvalidKind hr (by decide) rfl (pa_cons (pv 0) pa_nil)))) pss_nil)
      (pss_one (ps_ret (pv 0)))), ?_⟩
    rcases h with ⟨⟨a, rfl, ok⟩, q⟩ | ⟨⟨nn, bad⟩, k⟩
    · cases a with
      | none => exact ⟨_, rfl, rfl, _, rfl, iteF ⟨_, rfl, q⟩⟩
      | some i =>
        refine ⟨_, rfl, rfl, _, rfl, iteT ⟨_, rfl, .int i, 0, L, rfl, .inl ⟨i, rfl, _, rfl, ?_⟩⟩⟩
        have o := ok i rfl
        rw [decide_eq_true o.1, decide_eq_true o.2]
        exact iteF ⟨_, rfl, q⟩
    · refine ⟨_, rfl, rfl, _, rfl, ?_⟩
      rw [decide_eq_false nn]
      rcases bad with ⟨i, rfl, e⟩ | no
      · refine iteT ⟨_, rfl, .int i, 0, L, rfl, .inl ⟨i, rfl, _, rfl, ?_⟩⟩
        rw [e]
        exact iteT ⟨_, rfl, x_read fun d nd => k d nd⟩
      · exact iteT ⟨_, rfl, y, 0, L, rfl, .inr ⟨no, _, rfl, iteT ⟨_, rfl, x_read fun d nd => k d nd⟩⟩⟩
abbrev s_checked_source : Stmt := top 81
theorem sc_checked_source : FnScope ["value"] ["value"] (defScope s_checked_source) := ⟨rfl, rfl, rfl, by decide +kernel, rfl, by decide +kernel, by decide +kernel⟩
theorem ok_cs (D : DefK K mg "_checked_source" s_checked_source) (T : Txt K mg C) (G_is_word : Cal P w K mg base CX0 1 "is_word" (spWord K)) (G_InvalidKind : ExnB P w K mg base 1 "InvalidKind" CI (spX CI "value")) : Cal P w K mg base (L2.CX P w) 3 "_checked_source" (spChk gS (bS K) CI) := by
  refine D.calX sc_checked_source (fun _ _ _ _ _ _ us hl => match us, hl with | [_], _ => rfl) (fun vs H Q E h => ?_) fun f cdv A outer s H vs Q E hr h => ?_
  · obtain ⟨y, rfl, _⟩ := h; rfl
  · obtain ⟨y, rfl, h⟩ := h
    refine ⟨_, (pss_cons (ps_if (PW.pt (pw_and (pt_cmpR op_notN (pv 0) pe_non (nomark _)) (pw_and1 (pt_not (pt_val (pe_c G_is_word hr (by decide) rfl (pa_cons (pv 0) pa_nil))))))) (pss_one (ps_raise rfl (takes_of rfl rfl rfl rfl) (pmk_b G_InvalidKind hr (by decide) rfl (pa_cons (pv 0) pa_nil)))) pss_nil)
      (pss_one (ps_ret (pv 0)))), ?_⟩
    rcases h with ⟨⟨s, rfl, ok⟩, q⟩ | ⟨⟨nn, bad⟩, k⟩
    · cases s with
      | none => exact ⟨_, rfl, rfl, _, rfl, iteF ⟨_, rfl, q⟩⟩
      | some z =>
        have o := ok z rfl
        refine ⟨_, rfl, rfl, _, rfl, iteT ⟨_, rfl, .str z, rfl, .inl ⟨z, rfl, o.1, _, rfl, ?_⟩⟩⟩
        rw [o.2]
        exact iteF ⟨_, rfl, q⟩
    · refine ⟨_, rfl, rfl, _, rfl, ?_⟩
      rw [decide_eq_false nn]
      rcases bad with ⟨z, rfl, hz, e⟩ | ⟨t, ty, kt⟩
      · refine iteT ⟨_, rfl, .str z, rfl, .inl ⟨z, rfl, hz, _, rfl, ?_⟩⟩
        rw [e]
        exact iteT ⟨_, rfl, x_read fun d nd => k d nd⟩
      · exact iteT ⟨_, rfl, y, rfl, .inr ⟨t, ty _ (.refl _), kt, _, rfl, iteT ⟨_, rfl, x_read fun d nd => k d nd⟩⟩⟩
abbrev s_Kind_init : Stmt := inClass (top 84) 0
theorem sc_Kind_init : FnScope ["self", "gap", "age", "source"] ["self", "gap", "age", "source"] (defScope s_Kind_init) := ⟨rfl, rfl, rfl, by decide +kernel, rfl, by decide +kernel, by decide +kernel⟩
theorem body_kinit (T : Txt K mg C) (G_checked_gap : Cal P w K mg base (L2.CX P w) 3 "_checked_gap" (spChk gG (bG K) CI)) (G_checked_age : Cal P w K mg base (L2.CX P w) 3 "_checked_age" (spChk gA (bA K) CI)) (G_checked_source : Cal P w K mg base (L2.CX P w) 3 "_checked_source" (spChk gS (bS K) CI))
    (f : Addr) : BodyX P w K mg base ["self", "gap", "age", "source"] "Kind.__init__" s_Kind_init f 4 (spKInit K C CI) := by
  intro cdv A outer s H vs Q E hr h
  obtain ⟨x, dx, u, v, so, H0, rfl, hx, s0, n0, h⟩ := h
  refine ⟨_, (pss_cons (ps_fld (pv 0) (pe_cS G_checked_gap (takes_of rfl rfl rfl rfl) hr (by decide) rfl (pa_cons (pv 1) pa_nil)) rfl)
      (pss_cons (ps_fld (pv 0) (pe_cS G_checked_age (takes_of rfl rfl rfl rfl) hr (by decide) rfl (pa_cons (pv 2) pa_nil)) rfl)
      (pss_one (ps_fld (pv 0) (pe_cS G_checked_source (takes_of rfl rfl rfl rfl) hr (by decide) rfl (pa_cons (pv 3) pa_nil)) rfl)))), ?_⟩
  have npos : (0 : Nat) < 1000 := by decide
  have one : (1 : Nat) < 1000 := by decide
  have two : (2 : Nat) < 1000 := by decide
  rcases h with ⟨r, rfl, rfl, rfl, ok, q⟩ | ⟨y, hy, k⟩
  · refine ⟨_, rfl, .int r.g, rfl, .inl ⟨⟨r.g, rfl, ok.g⟩, _, rfl, x, C, dx, [], rfl, hx, T.cl, T.ng, npos, ?_⟩⟩
    rw [show putF "_gap" (V.int r.g) [] = [(("_gap" : Str), V.int r.g)] from rfl]
    refine ⟨_, rfl, oV r.a, rfl, .inl ⟨⟨r.a, rfl, ok.a⟩, _, rfl, x, C, dx, _, rfl, upd_same, T.cl, T.na, one, ?_⟩⟩
    rw [put_a, upd_upd]
    refine ⟨_, rfl, sV r.s, rfl, .inl ⟨⟨r.s, rfl, ok.s⟩, _, rfl, x, C, dx, _, rfl, upd_same, T.cl, T.ns, two, ?_⟩⟩
    rw [put_s, upd_upd]
    exact q _ ⟨dx, upd_same⟩ fun b o e n => by rw [upd_ne n]; exact e
  · rcases hy with ⟨rfl, bad⟩ | ⟨rfl, ⟨g, rfl, g1⟩, bad⟩ | ⟨rfl, ⟨g, rfl, g1⟩, ⟨a, rfl, a1⟩, bad⟩
    · exact ⟨_, rfl, y, rfl, .inr ⟨bad.keep s0, fun d nd => k d _ (s0.free nd) upd_same (same_new' s0 nd)⟩⟩
    · refine ⟨_, rfl, .int g, rfl, .inl ⟨⟨g, rfl, g1⟩, _, rfl, x, C, dx, [], rfl, hx, T.cl, T.ng, npos, ?_⟩⟩
      have s1 := same_mut (o := .ins C dx (putF "_gap" (V.int g) [])) s0 n0
      exact ⟨_, rfl, y, rfl, .inr ⟨⟨bad.1, bad.2.keep s1⟩, fun d nd => k d _ (s1.free nd) upd_same (same_new' s1 nd)⟩⟩
    · refine ⟨_, rfl, .int g, rfl, .inl ⟨⟨g, rfl, g1⟩, _, rfl, x, C, dx, [], rfl, hx, T.cl, T.ng, npos, ?_⟩⟩
      refine ⟨_, rfl, oV a, rfl, .inl ⟨⟨a, rfl, a1⟩, _, rfl, x, C, dx, _, rfl, upd_same, T.cl, T.na, one, ?_⟩⟩
      rw [upd_upd]
      have s1 := same_mut (o := .ins C dx (putF "_age" (oV a) (putF "_gap" (V.int g) []))) s0 n0
      exact ⟨_, rfl, y, rfl, .inr ⟨⟨bad.1, bad.2.keep s1⟩, fun d nd => k d _ (s1.free nd) upd_same (same_new' s1 nd)⟩⟩
end
end K54F
namespace K54F
open PySem PySem.Spec PyProof.Rows L2 Jg
local macro_rules | `(tactic| walk_at "rd1") => `(tactic| (first
  | refine ⟨_, rfl, ?_⟩
  | refine ⟨_, _, rfl, rfl, ?_⟩
  | refine ⟨_, _, rfl, ?_⟩
  | refine ⟨rfl, ?_⟩
  | (refine ⟨show (0 : Int) < _ by omega, ?_⟩)
  | (refine ⟨Or.inl ⟨by omega, by omega⟩, ?_⟩)
  | (refine ⟨Or.inr ⟨by omega, by omega⟩, ?_⟩)
  | (refine ⟨(⟨by decide, by decide, by decide⟩ : CPow _ _), ?_⟩)
  | refine Or.inl ⟨_, rfl, ?_⟩
  | refine Or.inr ⟨_, rfl, ?_⟩
  | fail "rd"))
local macro_rules | `(tactic| walk_at "rd") => `(tactic| repeat' walk_at "rd1")
/-! ### draws -/
/-- all stays, but what stands at p -/
def SameB (p : Addr) (H H' : Hp) : Prop := ∀ q o, H q = some o → q ≠ p → H' q = some o
theorem SameB.refl (p : Addr) (H : Hp) : SameB p H H := fun _ _ e _ => e
theorem SameB.trans {p : Addr} {H H1 H2 : Hp} (a : SameB p H H1) (b : SameB p H1 H2) : SameB p H H2 := fun q o e n => b q o (a q o e n) n
theorem SameB.of {p : Addr} {H H1 : Hp} (a : Same H H1) : SameB p H H1 := fun q o e _ => a q o e
theorem SameB.new {p l : Addr} {H H1 : Hp} {o : HO} (a : SameB p H H1) (h : H1 l = none) : SameB p H (upd H1 l o) := fun q u e n => by
  have z := a q u e n
  rw [upd_ne (ne_of_none z h)]
  exact z
theorem SameB.mut {p : Addr} {H H1 : Hp} {o : HO} (a : SameB p H H1) : SameB p H (upd H1 p o) := fun q u e n => by
  rw [upd_ne n]
  exact a q u e n
theorem SameB.out {p : Addr} {H H1 H2 : Hp} (a : Same H H1) (b : SameB p H1 H2) (n : H p = none) : Same H H2 := fun q o e => b q o (a q o e) (ne_of_none e n)
def StA (H : Hp) (p : Addr) : Prop := ∃ a b, H p = some (.lst [.int a, .int b]) ∧ 0 ≤ a
theorem StA.ne {H : Hp} {p l : Addr} (h : StA H p) (n : H l = none) : l ≠ p := fun z => by
  obtain ⟨a, b, e, _⟩ := h
  rw [z, e] at n
  cases n
theorem yes_if {σ : L2.St} {H : Hp} {A B : Hp → Prop} (h : A H) : tYes σ H (fun b H3 => if b = true then A H3 else B H3) := by
  show (if true = true then A H else B H)
  rw [if_pos rfl]
  exact h
theorem SameB.free {p l : Addr} {H H' : Hp} (s : SameB p H H') (n : H' l = none) (np : l ≠ p) : H l = none := by
  cases e : H l with
  | none => rfl
  | some o =>
    have z := s l o e np
    rw [n] at z; cases z
/-! ### letters -/
def AZ (z : Str) : Prop := ∀ c ∈ z.cps.toList, 97 ≤ c ∧ c ≤ 122
theorem az_sign : ∀ c : Nat, 97 ≤ c → c ≤ 122 → (Unicode.isAlpha c && (Unicode.isLower c && (!Unicode.isUpper c && !Unicode.isTitle c))) = true := by
  intro c h1 h2
  have h : ∀ d ∈ (List.range 26).map (97 + ·), (Unicode.isAlpha d && (Unicode.isLower d && (!Unicode.isUpper d && !Unicode.isTitle d))) = true := by decide +kernel
  exact h c (List.mem_map.mpr ⟨c - 97, List.mem_range.mpr (by omega), by show 97 + (c - 97) = c; omega⟩)
theorem az_all {z : Str} {p : Nat → Bool} (h : AZ z) (hp : ∀ c, 97 ≤ c → c ≤ 122 → p c = true) : z.cps.all p = true := by
  rw [← Array.all_toList]
  exact List.all_eq_true.mpr fun c hc => hp c (h c hc).1 (h c hc).2
theorem az_word {z : Str} (h : AZ z) (h1 : 1 ≤ z.length) (h8 : z.length ≤ 8) : wordB z = true := by
  have pos : 0 < z.cps.toList.length := by
    have e : z.length = z.cps.size := rfl
    rw [Array.length_toList]; omega
  have ha : PySem.Txt.isascii z = true := az_all h fun c _ _ => decide_eq_true (by omega)
  have hb : PySem.Txt.isalpha z = true := by
    unfold PySem.Txt.isalpha
    rw [az_all h fun c h1 h2 => (Bool.and_eq_true_iff.mp (az_sign c h1 h2)).1, Bool.and_true]
    exact decide_eq_true (by omega)
  have hc : PySem.Txt.islower z = true := by
    unfold PySem.Txt.islower
    have k1 : z.cps.any Unicode.isLower = true := by
      rw [← Array.any_toList]
      have m : z.cps.toList[0] ∈ z.cps.toList := List.getElem_mem pos
      exact List.any_eq_true.mpr ⟨_, m, (Bool.and_eq_true_iff.mp (Bool.and_eq_true_iff.mp (az_sign _ (h _ m).1 (h _ m).2)).2).1⟩
    have k2 : (z.cps.any fun c => Unicode.isUpper c || Unicode.isTitle c) = false := by
      rw [← Array.any_toList, List.any_eq_false]
      intro c hc
      have z4 := (Bool.and_eq_true_iff.mp (Bool.and_eq_true_iff.mp (az_sign _ (h _ hc).1 (h _ hc).2)).2).2
      obtain ⟨u1, u2⟩ := Bool.and_eq_true_iff.mp z4
      rw [Bool.not_eq_true'] at u1 u2
      rw [u1, u2]; simp
    rw [k1, k2]; rfl
  unfold wordB
  rw [decide_eq_true h8, ha, hb, hc]; rfl
/-- a word -/
def Wd (z : Str) : Prop := AZ z ∧ 1 ≤ z.length ∧ z.length ≤ 7
theorem Wd.ok {z : Str} (h : Wd z) : z.length ≤ sizeLine ∧ wordB z = true := ⟨by rw [sizeLine_eq]; have := h.2.2; omega, az_word h.1 h.2.1 (Nat.le_succ_of_le h.2.2)⟩
end K54F
namespace K54F
open PySem PySem.Spec PyProof.Rows L2 Jg
local macro_rules | `(tactic| walk_at "rd1") => `(tactic| (first
  | refine ⟨_, rfl, ?_⟩
  | refine ⟨_, _, rfl, rfl, ?_⟩
  | refine ⟨_, _, rfl, ?_⟩
  | refine ⟨rfl, ?_⟩
  | (refine ⟨show (0 : Int) < _ by omega, ?_⟩)
  | (refine ⟨Or.inl ⟨by omega, by omega⟩, ?_⟩)
  | (refine ⟨Or.inr ⟨by omega, by omega⟩, ?_⟩)
  | (refine ⟨(⟨by decide, by decide, by decide⟩ : CPow _ _), ?_⟩)
  | refine Or.inl ⟨_, rfl, ?_⟩
  | refine Or.inr ⟨_, rfl, ?_⟩
  | fail "rd"))
local macro_rules | `(tactic| walk_at "rd") => `(tactic| repeat' walk_at "rd1")
theorem same_kat {C : Addr} {H H' : Hp} {p : Addr} {r : Kd} (e : Same H H') (h : KAt C H p r) : KAt C H' p r :=
  let ⟨dx, h⟩ := h
  ⟨dx, e _ _ h⟩
def spPrp (C : Addr) (g : Kd → V) : Sp := fun vs H Q _ => ∃ p r, vs = [.ref p] ∧ KAt C H p r ∧ Q (g r) H
def g3 : List V → List V → List V := fun vs zs => vs ++ zs
/-- the kinds under their names: name, what it tells, where it stands -/
abbrev Ks := List (Str × Kd × Addr)
def kvs (ks : Ks) : List (Key × V) := ks.map fun e => (Sum.inr e.1, V.ref e.2.2)
def Kds (C : Addr) (H : Hp) (d : Addr) (ks : Ks) : Prop := Rd H d (.dK (kvs ks)) ∧ ∀ e ∈ ks, KAt C H e.2.2 e.2.1 ∧ KOk e.2.1
def kdOf (ks : Ks) (z : Str) : Option (Str × Kd × Addr) := ks.find? fun e => e.1 = z
def srcOf (ks : Ks) (z : Str) : Option Str := (kdOf ks z).bind fun e => e.2.1.s
/-- every source is there -/
def Fed (ks : Ks) : Prop := ∀ e ∈ ks, ∀ z, e.2.1.s = some z → z ∈ ks.map (·.1)
def chainB (ks : Ks) : Nat → List Str → Option Str → List Str
  | 0, acc, _ => acc
  | _ + 1, acc, none => acc
  | n + 1, acc, some z => chainB ks n (z :: acc) (srcOf ks z)
def chainF (ks : Ks) (z : Str) : List Str := chainB ks 4 [z] (srcOf ks z)
theorem Kds.keep {C : Addr} {H H' : Hp} {d : Addr} {ks : Ks} (h : Kds C H d ks) (s : Same H H') : Kds C H' d ks := ⟨h.1.elim (fun e => .inl (s _ _ e)) (fun ⟨o, e⟩ => .inr ⟨o, s _ _ e⟩), fun e he => ⟨same_kat s (h.2 e he).1, (h.2 e he).2⟩⟩
theorem kd_mem {ks : Ks} {z : Str} (h : z ∈ ks.map (·.1)) : ∃ e, kdOf ks z = some e ∧ e ∈ ks ∧ e.1 = z := by
  obtain ⟨e, he, ez⟩ := List.mem_map.mp h
  cases c : kdOf ks z with
  | none => exact absurd (decide_eq_true ez) (by have := List.find?_eq_none.mp c e he; simpa using this)
  | some o => exact ⟨o, rfl, List.mem_of_find?_eq_some c, by simpa using List.find?_some c⟩
theorem kd_val : ∀ (ks : Ks) (z : Str), valV (kvs ks) (Sum.inr z) = (kdOf ks z).map fun e => V.ref e.2.2 := by
  intro ks z
  unfold valV kvs kdOf
  rw [List.find?_map, Option.map_map]
  have e : ((fun kv : Key × V => decide (kv.1 = Sum.inr z)) ∘ fun e : Str × Kd × Addr => ((Sum.inr e.1 : Key), V.ref e.2.2)) = fun e => decide (e.1 = z) := by
    funext e
    show decide ((Sum.inr e.1 : Key) = Sum.inr z) = decide (e.1 = z)
    exact key_rr e.1 z
  rw [e]
  rfl
theorem dget {C : Addr} {H : Hp} {d : Addr} {ks : Ks} {z : Str} {e : Str × Kd × Addr} (kd : Kds C H d ks) (h : kdOf ks z = some e) : DGet H d (.str z) (some (.ref e.2.2)) := by
  have q : DGet H d (.str z) (valV (kvs ks) (Sum.inr z)) := .inl ⟨kvs ks, Sum.inr z, kd.1, rfl, rfl⟩
  rw [kd_val, h] at q
  exact q
theorem chainB_none (ks : Ks) (m : Nat) (acc : List Str) : chainB ks m acc none = acc := by cases m <;> rfl
def spCopied (C : Addr) : Sp := fun vs H Q _ => ∃ p r, vs = [.ref p] ∧ KAt C H p r ∧ KOk r ∧ ∀ x H', H x = none → Same H H' → KAt C H' x r → Q (.ref x) H'
def spChain (C : Addr) : Sp := fun vs H Q _ => ∃ d z ks, vs = [.ref d, .str z] ∧ Kds C H d ks ∧ Fed ks ∧ z ∈ ks.map (·.1) ∧ ∀ l H', H l = none → Same H H' → H' l = some (.lst ((chainF ks z).map V.str)) → Q (.ref l) H'
section
variable {P : Program} {w : World} {K : PySem.W.Frag} {mg : Str → Option Value} {base : Heap} {C CI CU F : Addr}
abbrev s_Kind_gap : Stmt := inClass (top 84) 1
theorem sc_Kind_gap : FnScope ["self"] ["self"] (defScope s_Kind_gap) := ⟨rfl, rfl, rfl, by decide +kernel, rfl, by decide +kernel, by decide +kernel⟩
theorem ok_gap (D : PrpK K C "gap" "Kind.gap" s_Kind_gap) (T : Txt K mg C) : Prp P w K mg base CX0 1 C "gap" (spPrp C fun r => .int r.g) := by
  refine D.prp sc_Kind_gap (fun _ _ _ _ _ _ us hl => match us, hl with | [_], _ => rfl) (fun vs H Q E h => ?_) fun f cdv A outer s H vs Q E hr h => ?_
  · obtain ⟨p, r, rfl, _⟩ := h; rfl
  · obtain ⟨p, r, rfl, ⟨dx, hp⟩, k⟩ := h
    exact ⟨_, (pss_one (ps_ret (pe_fld (pv 0) rfl))), _, rfl, p, C, dx, _, _, rfl, hp, T.cl, T.ng, get_g _ _ _, k⟩
abbrev s_Kind_age : Stmt := inClass (top 84) 3
theorem sc_Kind_age : FnScope ["self"] ["self"] (defScope s_Kind_age) := ⟨rfl, rfl, rfl, by decide +kernel, rfl, by decide +kernel, by decide +kernel⟩
theorem ok_age (D : PrpK K C "age" "Kind.age" s_Kind_age) (T : Txt K mg C) : Prp P w K mg base CX0 1 C "age" (spPrp C fun r => oV r.a) := by
  refine D.prp sc_Kind_age (fun _ _ _ _ _ _ us hl => match us, hl with | [_], _ => rfl) (fun vs H Q E h => ?_) fun f cdv A outer s H vs Q E hr h => ?_
  · obtain ⟨p, r, rfl, _⟩ := h; rfl
  · obtain ⟨p, r, rfl, ⟨dx, hp⟩, k⟩ := h
    exact ⟨_, (pss_one (ps_ret (pe_fld (pv 0) rfl))), _, rfl, p, C, dx, _, _, rfl, hp, T.cl, T.na, get_a _ _ _, k⟩
abbrev s_Kind_source : Stmt := inClass (top 84) 5
theorem sc_Kind_source : FnScope ["self"] ["self"] (defScope s_Kind_source) := ⟨rfl, rfl, rfl, by decide +kernel, rfl, by decide +kernel, by decide +kernel⟩
theorem ok_source (D : PrpK K C "source" "Kind.source" s_Kind_source) (T : Txt K mg C) : Prp P w K mg base CX0 1 C "source" (spPrp C fun r => sV r.s) := by
  refine D.prp sc_Kind_source (fun _ _ _ _ _ _ us hl => match us, hl with | [_], _ => rfl) (fun vs H Q E h => ?_) fun f cdv A outer s H vs Q E hr h => ?_
  · obtain ⟨p, r, rfl, _⟩ := h; rfl
  · obtain ⟨p, r, rfl, ⟨dx, hp⟩, k⟩ := h
    exact ⟨_, (pss_one (ps_ret (pe_fld (pv 0) rfl))), _, rfl, p, C, dx, _, _, rfl, hp, T.cl, T.ns, get_s _ _ _, k⟩
abbrev s_copied : Stmt := top 82
theorem sc_copied : FnScope ["kind"] ["kind"] (defScope s_copied) := ⟨rfl, rfl, rfl, by decide +kernel, rfl, by decide +kernel, by decide +kernel⟩
theorem ok_copied (D : DefK K mg "_copied" s_copied) (T : Txt K mg C) (M_Kind : MakW P w K mg base (L2.CX P w) 5 "Kind" C ["gap", "age", "source"] g3 (spKInit K C CI)) (G_gap : Prp P w K mg base CX0 1 C "gap" (spPrp C fun r => .int r.g)) (G_age : Prp P w K mg base CX0 1 C "age" (spPrp C fun r => oV r.a)) (G_source : Prp P w K mg base CX0 1 C "source" (spPrp C fun r => sV r.s)) : Cal P w K mg base CX0 7 "_copied" (spCopied C) := by
  refine D.cal sc_copied (fun _ _ _ _ _ _ us hl => match us, hl with | [_], _ => rfl) (fun vs H Q E h => ?_) fun f cdv A outer s H vs Q E hr h => ?_
  · obtain ⟨p, r, rfl, _⟩ := h; rfl
  · obtain ⟨p, r, rfl, hp, ok, k⟩ := h
    obtain ⟨dp, ep⟩ := id hp
    refine ⟨_, (pss_one (ps_ret (pe_mkKS M_Kind takes0 hr (by decide) rfl (pk_cons (pe_p G_gap T.cl hr (by decide) (pv 0)) (pk_cons (pe_p G_age T.cl hr (by decide) (pv 0)) (pk_cons (pe_p G_source T.cl hr (by decide) (pv 0)) pk_nil)))))), ?_⟩
    refine ⟨_, rfl, p, dp, _, rfl, ep, p, r, rfl, hp, _, rfl, p, dp, _, rfl, ep, p, r, rfl, hp, _, rfl, p, dp, _, rfl, ep, p, r, rfl, hp, rfl, fun x dx nx ndx nex => ?_⟩
    have s1 : Same H (upd (upd H dx (.own x)) x (.ins C dx [])) := same_new' (same_new ndx) (by rw [upd_ne (Ne.symm nex)]; exact nx)
    exact ⟨x, dx, _, _, _, H, rfl, upd_same, s1, nx, .inl ⟨r, rfl, rfl, rfl, ok, fun H' ka kp => ⟨rfl, k x H' nx (Same.made nx ndx kp) ka⟩⟩⟩
abbrev s_chain_to : Stmt := top 83
theorem sc_chain_to : FnScope ["kinds", "name", "names", "source"] ["kinds", "name"] (defScope s_chain_to) := ⟨rfl, rfl, rfl, by decide +kernel, rfl, by decide +kernel, by decide +kernel⟩
theorem ok_chain_to (D : DefK K mg "_chain_to" s_chain_to) (T : Txt K mg C) (TF : FTx K mg F) (G_source : Prp P w K mg base CX0 1 C "source" (spPrp C fun r => sV r.s)) : Cal P w K mg base CX0 3 "_chain_to" (spChain C) := by
  refine D.cal sc_chain_to (fun _ _ _ _ _ _ us hl => match us, hl with | [_, _], _ => rfl) (fun vs H Q E h => ?_) fun f cdv A outer s H vs Q E hr h => ?_
  · obtain ⟨d, z, ks, rfl, _⟩ := h; rfl
  · obtain ⟨d, z, ks, rfl, kd, fed, mem, k⟩ := h
    have hu1 : (A.deeper (envOfC "_chain_to" (defScope s_chain_to) s.heap.objs.size f cdv)).units + 1 < cLine := Nat.lt_of_le_of_lt (Nat.add_le_add_left (by decide : 1 ≤ 64) _) hr.units
    refine ⟨_, (pss_cons (ps_set (i := 2) sc_chain_to.nd rfl (Or.inl rfl) (pe_lst (pa_cons (pv 1) pa_nil)))
      (pss_cons (ps_set (i := 3) sc_chain_to.nd rfl (Or.inl rfl) (pe_p G_source T.cl hr (by decide) (pe_dget hu1 (pv 0) (pv 1) (fun _ _ => rfl))))
      (pss_cons (ps_while PassesOwn.never (PW.pt (pw_and (pt_cmpR op_notN (pv 3) pe_non (nomark _)) (pw_and1 (pt_cmpR op_le (pe_callB call_len_seq (by rfl) T.b_len (by decide +kernel) (pa_cons (pv 2) pa_nil)) (pe_gc rfl T.g_LONGEST_CHAIN) (nomark _))))) (pss_cons (ps_set (i := 2) sc_chain_to.nd rfl (Or.inl rfl) (pe_lst (pa_cons (pv 3) (StX.pa_star (pv 2) pa_nil))))
      (pss_one (ps_set (i := 3) sc_chain_to.nd rfl (Or.inl rfl) (pe_p G_source T.cl hr (by decide) (pe_dget hu1 (pv 0) (pv 3) (fun _ _ => rfl)))))))
      (pss_one (ps_ret (pv 2)))))), ?_⟩
    obtain ⟨e0, k0, m0, z0⟩ := kd_mem mem
    obtain ⟨⟨x0, a0⟩, o0⟩ := kd.2 e0 m0
    refine ⟨_, rfl, by show 1 ≤ sizeLine; decide, fun l nl => ?_⟩
    have s1 := same_new (o := .lst [V.str z]) nl
    have kd1 := kd.keep s1
    refine ⟨_, rfl, _, rfl, d, .ref e0.2.2, rfl, dget kd1 k0, e0.2.2, x0, _, rfl, s1 _ _ a0, e0.2.2, e0.2.1, rfl, ⟨x0, s1 _ _ a0⟩, ?_⟩
    have srcM : ∀ e ∈ ks, ∀ y, e.2.1.s = some y → y ∈ ks.map (·.1) := fed
    refine ⟨fun m σ H' => ∃ (lq : Addr) (acc : List Str) (so : Option Str), σ = [some (V.ref d), some (V.str z), some (V.ref lq), some (sV so)] ∧ H' lq = some (.lst (acc.map V.str)) ∧ H lq = none ∧ Same H H' ∧ acc.length + m = 5 ∧ chainB ks m acc so = chainF ks z ∧ (∀ y, so = some y → y ∈ ks.map (·.1)), ⟨4, l, [z], e0.2.1.s, rfl, upd_same, nl, s1, rfl, ?_, srcM e0 m0⟩, ?_⟩
    · unfold chainF srcOf
      rw [k0]
      rfl
    · rintro m σ H' ⟨lq, acc, so, rfl, hl, nq, sH, ln, ch, sm⟩
      have kdH := kd.keep sH
      cases so with
      | none =>
        rw [chainB_none] at ch
        exact ⟨_, rfl, rfl, _, rfl, iteF (iteF ⟨_, rfl, k lq H' nq sH (by rw [hl, ch])⟩)⟩
      | some y =>
        refine ⟨_, rfl, rfl, _, rfl, iteT ⟨_, rfl, lq, _, rfl, .inl (SqL.of hl), _, _, rfl, rfl, _, rfl, ?_⟩⟩
        rw [List.length_map]
        cases m with
        | zero =>
          rw [decide_eq_false (by omega)]
          exact iteF ⟨_, rfl, k lq H' nq sH (by rw [hl, ← ch]; rfl)⟩
        | succ m =>
          rw [decide_eq_true (by omega)]
          obtain ⟨e1, k1, m1, z1⟩ := kd_mem (sm y rfl)
          obtain ⟨⟨x1, a1⟩, o1⟩ := kdH.2 e1 m1
          refine iteT ⟨_, fun σ' H'' w => ⟨m, Nat.lt_succ_self m, w⟩, _, rfl, _, rfl, lq, _, rfl, .inr (SqL.of hl), ?_, fun l2 nl2 => ?_⟩
          · rw [List.append_nil, List.length_cons, List.length_map, sizeLine_eq]; omega
          · have s2 := same_new (o := .lst (V.str y :: (acc.map V.str ++ []))) nl2
            have sH2 := sH.trans s2
            refine ⟨_, rfl, _, rfl, d, .ref e1.2.2, rfl, dget (kd.keep sH2) k1, e1.2.2, x1, _, rfl, s2 _ _ a1, e1.2.2, e1.2.1, rfl, ⟨x1, s2 _ _ a1⟩, ?_⟩
            refine ⟨l2, y :: acc, e1.2.1.s, rfl, by rw [upd_same, List.append_nil]; rfl, sH.free nl2, sH2, by rw [List.length_cons]; omega, ?_, srcM e1 m1⟩
            rw [← ch]
            show _ = chainB ks m (y :: acc) (srcOf ks y)
            unfold srcOf
            rw [k1]
            rfl
end
end K54F
namespace K54F
open PySem PySem.Spec PyProof.Rows L2 Jg
local macro_rules | `(tactic| walk_at "rd1") => `(tactic| (first
  | refine ⟨_, rfl, ?_⟩
  | refine ⟨_, _, rfl, rfl, ?_⟩
  | refine ⟨_, _, rfl, ?_⟩
  | refine ⟨rfl, ?_⟩
  | (refine ⟨show (0 : Int) < _ by omega, ?_⟩)
  | (refine ⟨Or.inl ⟨by omega, by omega⟩, ?_⟩)
  | (refine ⟨Or.inr ⟨by omega, by omega⟩, ?_⟩)
  | (refine ⟨(⟨by decide, by decide, by decide⟩ : CPow _ _), ?_⟩)
  | refine Or.inl ⟨_, rfl, ?_⟩
  | refine Or.inr ⟨_, rfl, ?_⟩
  | fail "rd"))
local macro_rules | `(tactic| walk_at "rd") => `(tactic| repeat' walk_at "rd1")
theorem lc_w {J : It} {n : Nat} {G : Hp → Prop} {Y : Nat → Hp → V → Hp → Prop} (W : Walk J n G Y) {g : TG} {tt : TT} {te : TE} {vs : List Nat} {σ : L2.St} {H1 : Hp} {D : Addr} {Qd : Hp → Prop} (Pv : Nat → Hp → Prop) (h0 : Pv 0 (upd H1 D (.lst []))) (hG : ∀ i H, Pv i H → G H)
    (hs : ∀ i H x H', i < n → Pv i H → Y i H x H' → g x (wipe σ vs) H' fun σ2 H2 => wipe σ2 vs = wipe σ vs ∧ tt σ2 H2 fun b H3 =>
      if b = true then te σ2 H3 fun y H4 => ∃ acc, H4 D = some (.lst acc) ∧ acc.length < sizeLine ∧ Pv (i + 1) (upd H4 D (.lst (acc ++ [y]))) else Pv (i + 1) H3) (hd : ∀ H, Pv n H → Qd H) : LcAsk J g tt te vs σ H1 D Qd := by
  refine ⟨fun i m H => m = n - i ∧ i ≤ n ∧ Pv i H, ⟨_, rfl, Nat.zero_le _, h0⟩, ?_⟩
  rintro i m H ⟨rfl, hi, p⟩
  rcases Nat.lt_or_ge i n with lt | ge
  · exact .inr ⟨W.goes i H lt (hG i H p), Pv (i + 1), (fun H' p' => ⟨_, by omega, rfl, lt, p'⟩), fun x H' y => hs i H x H' lt p (W.yields i H x H' lt (hG i H p) y)⟩
  · have e : i = n := by omega
    subst e
    exact .inl ⟨W.stops H (hG i H p), hd H p⟩
def rLenL (K : PySem.W.Frag) : List V → Hp → VK → Prop := fun xs H Q => ∃ p ys, xs = [.ref p] ∧ SqL K H p ys ∧ Q (.int ys.length) H
theorem call_lenK {X : Cx} {K : PySem.W.Frag} (e : X.K = K) : CallR X (.builtin "len") (rLenL K) := by
  subst e
  intro pins s σ H xs us Q I r ⟨p, ys, e, h, q⟩
  exact call_len_seq pins s σ H xs us Q I r ⟨p, ys, e, .inl h, q⟩
def ff (d c : Addr) : List (Str × V) := [("_kinds", .ref d), ("_calls", .ref c)]
theorem fkc : ¬ (("_kinds" : Str) = "_calls") := by decide +kernel
theorem put_k2 (d c e : Addr) : putF "_kinds" (.ref e) (ff d c) = ff e c := by
  show (if ("_kinds" : Str) = "_kinds" then _ else _) = _
  rw [if_pos rfl]; rfl
theorem put_c (d c : Addr) : putF "_calls" (.ref c) [(("_kinds" : Str), V.ref d)] = ff d c := by
  show (if ("_kinds" : Str) = "_calls" then _ else _) = _
  rw [if_neg fkc]; rfl
theorem get_k (d c : Addr) : (ff d c).lookup ("_kinds" : Str) = some (.ref d) := by
  have e : ((("_kinds" : Str)) == ("_kinds" : Str)) = true := by decide +kernel
  simp only [ff, List.lookup, e]
theorem get_c (d c : Addr) : (ff d c).lookup ("_calls" : Str) = some (.ref c) := by
  have e1 : ((("_calls" : Str)) == ("_kinds" : Str)) = false := by decide +kernel
  have e2 : ((("_calls" : Str)) == ("_calls" : Str)) = true := by decide +kernel
  simp only [ff, List.lookup, e1, e2]
theorem get_fno (d c : Addr) {m : Str} (h1 : (m == ("_kinds" : Str)) = false) (h2 : (m == ("_calls" : Str)) = false) : (ff d c).lookup m = none := by
  simp only [ff, List.lookup, h1, h2]
/-- a fleet stands at f: its kinds ks in the dict at d, its calls in the list at c -/
structure FltAt (F C : Addr) (H : Hp) (f d c : Addr) (ks : Ks) (cs : List V) : Prop where
  at_ : ∃ dx, H f = some (.ins F dx (ff d c))
  ed : H d = some (.dK (kvs ks))
  kds : Kds C H d ks
  cal : H c = some (.lst cs)
def putKs (ks : Ks) (z : Str) (r : Kd) (x : Addr) : Ks := if ks.any (fun e => decide (e.1 = z)) then ks.map (fun e => if e.1 = z then (z, r, x) else e) else ks ++ [(z, r, x)]
theorem any_key (ks : Ks) (z : Str) : ((kvs ks).any fun kv => decide (kv.1 = Sum.inr z)) = ks.any fun e => decide (e.1 = z) := by
  unfold kvs
  rw [List.any_map]
  congr 1
  funext e
  exact key_rr e.1 z
theorem kvs_put (ks : Ks) (z : Str) (r : Kd) (x : Addr) : kvs (putKs ks z r x) = putK (kvs ks) (Sum.inr z) (.ref x) := by
  unfold putKs putK
  rw [any_key]
  split
  · unfold kvs
    rw [List.map_map, List.map_map]
    refine List.map_congr_left fun e _ => ?_
    show (Sum.inr (if e.1 = z then (z, r, x) else e).1, V.ref (if e.1 = z then (z, r, x) else e).2.2) = (if (Sum.inr e.1 : Key) = Sum.inr z then _ else _)
    by_cases c : e.1 = z
    · rw [if_pos c, if_pos (by rw [c])]
      show ((Sum.inr z : Key), V.ref x) = (Sum.inr e.1, V.ref x)
      rw [c]
    · rw [if_neg c, if_neg (fun q => c (Sum.inr.inj q))]
  · unfold kvs
    rw [List.map_append]
    rfl
theorem mem_put {ks : Ks} {z : Str} {r : Kd} {x : Addr} {e : Str × Kd × Addr} (h : e ∈ putKs ks z r x) : e ∈ ks ∨ e = (z, r, x) := by
  unfold putKs at h
  split at h
  · obtain ⟨o, ho, q⟩ := List.mem_map.mp h
    by_cases c : o.1 = z
    · rw [if_pos c] at q; exact .inr q.symm
    · rw [if_neg c] at q; exact .inl (q ▸ ho)
  · rcases List.mem_append.mp h with h | h
    · exact .inl h
    · exact .inr (List.mem_singleton.mp h)
theorem len_put (ks : Ks) (z : Str) (r : Kd) (x : Addr) (h : z ∈ ks.map (·.1) ∨ ks.length < 5) (h5 : ks.length ≤ 5) : (putKs ks z r x).length ≤ 5 := by
  unfold putKs
  split
  · rw [List.length_map]; exact h5
  · rename_i c
    rw [List.length_append]
    show ks.length + 1 ≤ 5
    rcases h with h | h
    · obtain ⟨e, he, q⟩ := List.mem_map.mp h
      exact absurd (List.any_eq_true.mpr ⟨e, he, decide_eq_true q⟩) c
    · omega
def spFInit (F C : Addr) : Sp := fun vs H Q _ => ∃ x dx, vs = [.ref x] ∧ H x = some (.ins F dx []) ∧ ∀ H' d c, H d = none → H c = none → FltAt F C H' x d c [] [] → (∀ b o, H b = some o → b ≠ x → H' b = some o) → Q .non H'
theorem names_put {ks : Ks} {z : Str} {r : Kd} {x : Addr} {y : Str} (h : y ∈ ks.map (·.1)) : y ∈ (putKs ks z r x).map (·.1) := by
  obtain ⟨e, he, rfl⟩ := List.mem_map.mp h
  unfold putKs
  split
  · by_cases c : e.1 = z
    · exact List.mem_map.mpr ⟨(z, r, x), List.mem_map.mpr ⟨e, he, if_pos c⟩, c.symm⟩
    · exact List.mem_map.mpr ⟨e, List.mem_map.mpr ⟨e, he, if_neg c⟩, rfl⟩
  · exact List.mem_map.mpr ⟨e, List.mem_append_left _ he, rfl⟩
theorem fed_put {ks : Ks} {z : Str} {r : Kd} {x : Addr} (fed : Fed ks) (src : ∀ s, r.s = some s → s ∈ ks.map (·.1)) : Fed (putKs ks z r x) := fun e he y ey => by
  rcases mem_put he with h | h
  · exact names_put (fed e h y ey)
  · rw [h] at ey; exact names_put (src y ey)
/-- is the chain of e too long -/
def lg (ks : Ks) (e : Str × Kd × Addr) : Bool := decide ((4 : Int) < (((chainF ks e.1).map V.str).length : Int))
/-- what is refused as a kind of the fleet, whatever the fleet holds -/
def BadSet (K : PySem.W.Frag) (C : Addr) (H : Hp) (y v : V) : Prop := (∃ z, y = .str z ∧ z.length ≤ sizeLine ∧ wordB z = false) ∨ (∃ t, TyX K H y t ∧ kit K t "str" false) ∨ (∃ z t, y = .str z ∧ z.length ≤ sizeLine ∧ wordB z = true ∧ TyX K H v t ∧ PySem.W.kitOne K t (.ref C) = some false)
def spSet (K : PySem.W.Frag) (F C CI CU CO : Addr) : Sp := fun vs H Q E => ∃ (f d c : Addr) (y v : V) (ks : Ks) (cs : List V), vs = [.ref f, y, v] ∧ FltAt F C H f d c ks cs ∧ ks.length ≤ 5 ∧ Fed ks ∧
  ((BadSet K C H y v ∧ ∀ d' H', H d' = none → H' d' = some (.xd [(("value" : Str), y)]) → Same H H' → E (.ref CI) (some d') H') ∨
   (∃ (p : Addr) (z : Str) (r : Kd), y = .str z ∧ v = .ref p ∧ KAt C H p r ∧ KOk r ∧ z.length ≤ sizeLine ∧ wordB z = true ∧
    ((∃ s, r.s = some s ∧ s ∉ ks.map (·.1) ∧ ∀ d' H', H d' = none → H' d' = some (.xd [(("name" : Str), .str s)]) → Same H H' → E (.ref CU) (some d') H') ∨
     ((∀ s, r.s = some s → s ∈ ks.map (·.1)) ∧
      ((z ∉ ks.map (·.1) ∧ ks.length = 5 ∧ ∀ d' H', H d' = none → H' d' = some (.xd [(("limit" : Str), .int 5)]) → Same H H' → E (.ref CO) (some d') H') ∨
       ((z ∈ ks.map (·.1) ∨ ks.length < 5) ∧
        (((∀ x, (putKs ks z r x).any (lg (putKs ks z r x)) = true) ∧ ∀ d' H', H d' = none → H' d' = some (.xd [(("value" : Str), .str z)]) → Same H H' → E (.ref CI) (some d') H') ∨
         ((∀ x, (putKs ks z r x).any (lg (putKs ks z r x)) = false) ∧ ∀ d' x H', H d' = none → H x = none → FltAt F C H' f d' c (putKs ks z r x) cs → (∀ b o, H b = some o → b ≠ f → H' b = some o) → Q .non H'))))))))
section
variable {P : Program} {w : World} {K : PySem.W.Frag} {mg : Str → Option Value} {base : Heap} {C CI CU CO F : Addr}
abbrev s_Fleet_init : Stmt := inClass (top 85) 0
theorem sc_Fleet_init : FnScope ["self"] ["self"] (defScope s_Fleet_init) := ⟨rfl, rfl, rfl, by decide +kernel, rfl, by decide +kernel, by decide +kernel⟩
theorem ok_finit (D : MetK K F "__init__" "Fleet.__init__" s_Fleet_init) (TF : FTx K mg F) : Met P w K mg base CX0 1 F "__init__" (spFInit F C) := by
  refine D.met sc_Fleet_init (fun _ _ _ _ _ _ us hl => match us, hl with | [_], _ => rfl) (fun vs H Q E h => ?_) fun f cdv A outer s H vs Q E hr h => ?_
  · obtain ⟨x, dx, rfl, _⟩ := h; rfl
  · obtain ⟨x, dx, rfl, ex, k⟩ := h
    refine ⟨_, (pss_cons (ps_fld (pv 0) pe_dnewK rfl)
      (pss_one (ps_fld (pv 0) (pe_lst pa_nil) rfl))), ?_⟩
    have npos : (0 : Nat) < 1000 := by decide
    have one : (1 : Nat) < 1000 := by decide
    refine fun d nd => ⟨_, rfl, x, F, dx, [], rfl, same_new nd _ _ ex, TF.cl, TF.nk, npos, ?_⟩
    rw [show putF "_kinds" (V.ref d) [] = [(("_kinds" : Str), V.ref d)] from rfl]
    have dx' : d ≠ x := fun z => by rw [z, ex] at nd; cases nd
    refine ⟨by show 0 ≤ sizeLine; decide, fun c nc => ?_⟩
    have cx : c ≠ x := fun z => by rw [z, upd_same] at nc; cases nc
    have cd : c ≠ d := fun z => by rw [z, upd_ne dx', upd_same] at nc; cases nc
    refine ⟨_, rfl, x, F, dx, [(("_kinds" : Str), V.ref d)], rfl, by rw [upd_ne (Ne.symm cx), upd_same], TF.cl, TF.nc, one, ?_⟩
    rw [put_c]
    have hd : upd (upd (upd (upd H d (.dK [])) x (.ins F dx [(("_kinds" : Str), V.ref d)])) c (.lst [])) x (.ins F dx (ff d c)) d = some (.dK []) := by rw [upd_ne dx', upd_ne (Ne.symm cd), upd_ne dx', upd_same]
    refine k _ d c nd ((same_new nd).free (by rw [upd_ne cx] at nc; exact nc)) ⟨⟨dx, upd_same⟩, hd, ⟨.inl hd, fun e he => nomatch he⟩, by rw [upd_ne cx, upd_same]⟩ fun b o e n => ?_
    rw [upd_ne n]
    have nb : H c = none := (same_new nd).free (by rw [upd_ne cx] at nc; exact nc)
    rw [upd_ne (ne_of_none e nb), upd_ne n, upd_ne (ne_of_none e nd)]
    exact e
abbrev s_LimitExceeded_init : Stmt := inClass (top 11) 0
theorem sc_LimitExceeded_init : FnScope ["self", "limit"] ["self", "limit"] (defScope s_LimitExceeded_init) := ⟨rfl, rfl, rfl, by decide +kernel, rfl, by decide +kernel, by decide +kernel⟩
theorem ok_linit (D : ExnQ K mg "LimitExceeded" CO "LimitExceeded.__init__" s_LimitExceeded_init "limit") : ExnB P w K mg base 1 "LimitExceeded" CO (spX CO "limit") := by
  obtain ⟨fI, fd, F, a, ty⟩ := D.ini
  refine ⟨D.mg_, D.ovr, fI, fd, _, F.ok sc_LimitExceeded_init (fun vs H Q E h => ?_) (fun cdv A outer s H vs Q E hr h => ?_), a, ty, F.binds (fun _ _ _ _ _ _ us hl => match us, hl with | [_, _], _ => rfl)⟩
  · obtain ⟨a, y, rfl, _⟩ := h; rfl
  · obtain ⟨a, y, rfl, ha, k⟩ := h
    exact ⟨_, (pss_one (ps_keep (pv 0) (pv 1))), _, rfl, _, rfl, a, CO, rfl, D.ovr, D.no, ha, fun dx n e => k dx n e⟩
abbrev s_Fleet_setitem : Stmt := inClass (top 85) 1
theorem sc_Fleet_setitem : FnScope ["self", "at", "worth", "kinds", "name"] ["self", "at", "worth"] (defScope s_Fleet_setitem) := ⟨rfl, rfl, rfl, by decide +kernel, rfl, by decide +kernel, by decide +kernel⟩
theorem ok_fset (D : MetK K F "__setitem__" "Fleet.__setitem__" s_Fleet_setitem) (T : Txt K mg C) (TF : FTx K mg F) (G_is_word : Cal P w K mg base CX0 1 "is_word" (spWord K)) (G_source : Prp P w K mg base CX0 1 C "source" (spPrp C fun r => sV r.s)) (G_copied : Cal P w K mg base CX0 7 "_copied" (spCopied C)) (G_chain_to : Cal P w K mg base CX0 3 "_chain_to" (spChain C)) (G_InvalidKind : ExnB P w K mg base 1 "InvalidKind" CI (spX CI "value")) (G_UnknownName : ExnB P w K mg base 1 "UnknownName" CU (spX CU "name")) (G_LimitExceeded : ExnB P w K mg base 1 "LimitExceeded" CO (spX CO "limit")) : Met P w K mg base (L2.CX P w) 8 F "__setitem__" (spSet K F C CI CU CO) := by
  refine D.metX sc_Fleet_setitem (fun _ _ _ _ _ _ us hl => match us, hl with | [_, _, _], _ => rfl) (fun vs H Q E h => ?_) fun f cdv A outer s H vs Q E hr h => ?_
  · obtain ⟨f, d, c, y, v, ks, cs, rfl, _⟩ := h; rfl
  · obtain ⟨f, d, c, y, v, ks, cs, rfl, fa, few, fed, k⟩ := h
    have hu1 : (A.deeper (envOfC "Fleet.__setitem__" (defScope s_Fleet_setitem) s.heap.objs.size f cdv)).units + 1 < cLine := Nat.lt_of_le_of_lt (Nat.add_le_add_left (by decide : 1 ≤ 64) _) hr.units
    refine ⟨_, (pss_cons (ps_if (PW.pt (pw_or (pt_not (pt_val (pe_c G_is_word hr (by decide) rfl (pa_cons (pv 1) pa_nil)))) (pw_or1 (pt_not (pt_val (pe_callB call_isi (by rfl) T.b_isinstance (by decide +kernel) (pa_cons (pv 2) (pa_cons (pe_glob (v := .ref C) rfl T.cKind rfl) pa_nil)))))))) (pss_one (ps_raise rfl (takes_of rfl rfl rfl rfl) (pmk_b G_InvalidKind hr (by decide) rfl (pa_cons (pv 1) pa_nil)))) pss_nil)
      (C8.pss_cut (ps_if (PW.pt (pw_and (pt_cmpR op_notN (pe_p G_source T.cl hr (by decide) (pv 2)) pe_non (nomark _)) (pw_and1 (pt_cmp (pc_dnotin hu1 (pe_p G_source T.cl hr (by decide) (pv 2)) (pe_fld (pv 0) rfl)))))) (pss_one (ps_raise rfl (takes_of rfl rfl rfl rfl) (pmk_b G_UnknownName hr (by decide) rfl (pa_cons (pe_p G_source T.cl hr (by decide) (pv 2)) pa_nil)))) pss_nil)
      (C8.pss_cut (ps_if (PW.pt (pw_and (pt_cmp (pc_dnotin hu1 (pv 1) (pe_fld (pv 0) rfl))) (pw_and1 (pt_cmpR op_eq (pe_callB call_lenD (by rfl) T.b_len (by decide +kernel) (pa_cons (pe_fld (pv 0) rfl) pa_nil)) (pe_gc rfl T.gMOST_KINDS) (nomark _))))) (pss_one (ps_raise rfl (takes_of rfl rfl rfl rfl) (pmk_b G_LimitExceeded hr (by decide) rfl (pa_cons (pe_gc rfl T.gMOST_KINDS) pa_nil)))) pss_nil)
      (pss_cons (ps_set (i := 3) sc_Fleet_setitem.nd rfl (Or.inr rfl) (pe_callTy cr_copyD (by rfl) T.b_dict (by decide +kernel) (pa_cons (pe_fld (pv 0) rfl) pa_nil)))
      (pss_cons (ps_dput hu1 (pv 3) (pv 1) (pe_c G_copied hr (by decide) rfl (pa_cons (pv 2) pa_nil)) rfl)
      (pss_cons (ps_if (pt_val (pe_lock (pe_callB (cr_any rfl) (by rfl) T.b_any (by decide +kernel) (pa_cons (pe_lc (own := [("name", 4)]) (g := gName 4) (by rfl) sc_Fleet_setitem.nd (pi_keys (pv 3)) (blkOk_by (own := [("name", 4)]) (N := ["self", "at", "worth", "kinds", "name"]) (sc := defScope s_Fleet_setitem) (by decide +kernel)) (fun _ _ _ _ _ => pg_name (i := 4) sc_Fleet_setitem.nd rfl (Or.inl rfl)) (fun _ _ _ _ _ => pts_nil) (fun _ _ _ _ _ => (pe_cmpR op_gt (pe_callB (r := rLenL K) (call_lenK rfl) (by rfl) T.b_len (by decide +kernel) (pa_cons (pe_c G_chain_to hr (by decide) rfl (pa_cons (pv 3) (pa_cons (pv 4) pa_nil))) pa_nil)) (pe_gc rfl T.g_LONGEST_CHAIN) (nomark _)))) pa_nil)))) (pss_one (ps_raise rfl (takes_of rfl rfl rfl rfl) (pmk_b G_InvalidKind hr (by decide) rfl (pa_cons (pv 1) pa_nil)))) pss_nil)
      (pss_one (ps_fld (pv 0) (pv 3) rfl)))))))), ?_⟩
    obtain ⟨dx, ef⟩ := id fa.at_
    rcases k with ⟨bad, k⟩ | ⟨p, z, r, rfl, rfl, kp, ok, hz, wz, k⟩
    · rcases bad with ⟨z, rfl, hz, wz⟩ | ⟨t, ty, kt⟩ | ⟨z, t, rfl, hz, wz, ty, kt⟩
      · refine ⟨_, rfl, .str z, rfl, .inl ⟨z, rfl, hz, _, rfl, ?_⟩⟩
        rw [wz]
        exact iteT (iteT ⟨_, rfl, x_read fun d nd => k d _ nd upd_same (same_new nd)⟩)
      · exact ⟨_, rfl, y, rfl, .inr ⟨t, ty, kt, _, rfl, iteT (iteT ⟨_, rfl, x_read fun d nd => k d _ nd upd_same (same_new nd)⟩)⟩⟩
      · refine ⟨_, rfl, .str z, rfl, .inl ⟨z, rfl, hz, _, rfl, ?_⟩⟩
        rw [wz]
        exact iteF ⟨_, rfl, v, .ref C, t, _, false, rfl, .own C, ty, kt, _, rfl, iteT ⟨_, rfl, x_read fun d nd => k d _ nd upd_same (same_new nd)⟩⟩
    obtain ⟨dp, ep⟩ := id kp
    refine ⟨_, rfl, .str z, rfl, .inl ⟨z, rfl, hz, _, rfl, ?_⟩⟩
    rw [wz]
    refine iteF ⟨_, rfl, .ref p, .ref C, .ref C, _, true, rfl, .own C, T.ty kp, T.kCC, _, rfl, iteF ?_⟩
    have kdz : ∀ y : Str, DGet H d (.str y) (valV (kvs ks) (Sum.inr y)) := fun y => .inl ⟨kvs ks, Sum.inr y, .inl fa.ed, rfl, rfl⟩
    have st0 : L2.start ["self", "at", "worth", "kinds", "name"] [V.ref f, V.str z, V.ref p] = [some (V.ref f), some (V.str z), some (V.ref p), none, none] := rfl
    rw [st0]
    refine ⟨fun sg H' => sg = [some (V.ref f), some (V.str z), some (V.ref p), none, none] ∧ H' = H ∧ ∀ s, r.s = some s → s ∈ ks.map (·.1), ?_, ?_⟩
    · refine ⟨_, rfl, p, dp, _, rfl, ep, p, r, rfl, kp, rfl, _, rfl, ?_⟩
      cases es : r.s with
      | none => exact iteFe (show (!decide (sV r.s = V.non)) = false by rw [es]; rfl) (iteF ⟨rfl, rfl, fun s e => by cases e⟩)
      | some y =>
        have dk := kdz y
        rw [kd_val] at dk
        refine iteTe (show (!decide (sV r.s = V.non)) = true by rw [es]; rfl) ⟨_, rfl, p, dp, _, rfl, ep, p, r, rfl, kp, _, rfl, f, F, dx, _, _, rfl, ef, TF.cl, TF.nk, get_k _ _, d, _, rfl, show DGet H d (sV r.s) _ from (by rw [es]; exact dk), _, rfl, ?_⟩
        by_cases m : y ∈ ks.map (·.1)
        · obtain ⟨e1, k1, m1, z1⟩ := kd_mem m
          rw [k1]
          exact iteF ⟨rfl, rfl, fun s e => by cases e; exact m⟩
        · rw [List.find?_eq_none.mpr (fun e he q => m (List.mem_map.mpr ⟨e, he, by simpa using q⟩)) |> (show kdOf ks y = none from ·)]
          refine iteT ⟨_, rfl, p, dp, _, rfl, ep, p, r, rfl, kp, ?_⟩
          rcases k with ⟨s0, e0, n0, q⟩ | ⟨src, _⟩
          · rw [es] at e0
            cases e0
            refine x_read fun d nd => ?_
            refine q d _ nd ?_ (same_new nd)
            rw [upd_same]
            show some (HO.xd [(("name" : Str), sV r.s)]) = _
            rw [es]; rfl
          · exact absurd (src y es) m
    · rintro sg H1 ⟨rfl, rfl, src⟩
      have k := k.resolve_left fun ⟨s0, e0, n0, _⟩ => n0 (src s0 e0)
      have k := k.2
      refine ⟨fun sg H' => sg = [some (V.ref f), some (V.str z), some (V.ref p), none, none] ∧ H' = H1 ∧ (z ∈ ks.map (·.1) ∨ ks.length < 5), ?_, ?_⟩
      · refine ⟨_, rfl, _, rfl, f, F, dx, _, _, rfl, ef, TF.cl, TF.nk, get_k _ _, d, _, rfl, kdz z, _, rfl, ?_⟩
        rw [kd_val]
        by_cases c : z ∈ ks.map (·.1)
        · obtain ⟨e1, k1, m1, z1⟩ := kd_mem c
          rw [k1]
          exact iteF (iteF ⟨rfl, rfl, .inl c⟩)
        · have no : kdOf ks z = none := List.find?_eq_none.mpr fun e he q => c (List.mem_map.mpr ⟨e, he, by simpa using q⟩)
          rw [no]
          refine iteT ⟨_, rfl, f, F, dx, _, _, rfl, ef, TF.cl, TF.nk, get_k _ _, d, _, rfl, fa.ed, ?_⟩
          have kl : (kvs ks).length = ks.length := List.length_map ..
          by_cases l5 : ks.length < 5
          · refine ⟨rfl, _, rfl, iteFe (decide_eq_false fun q => ?_) ⟨rfl, rfl, .inr l5⟩⟩
            have q2 := V.int.inj q
            omega
          · rcases k with ⟨_, l, q⟩ | ⟨room, _⟩
            · exact ⟨rfl, _, rfl, iteTe (by rw [kl, l]; rfl) (x_read fun d0 nd0 => q d0 _ nd0 upd_same (same_new nd0))⟩
            · exact absurd room (fun q => q.elim c l5)
      · rintro sg H2 ⟨rfl, rfl, room⟩
        have k := (k.resolve_left fun ⟨n, l, _⟩ => room.elim n fun q => by omega).2
        refine ⟨_, rfl, f, F, dx, _, _, rfl, ef, TF.cl, TF.nk, get_k _ _, d, kvs ks, rfl, .inl fa.ed, fun d' nd' => ?_⟩
        have s1 := same_new (o := .dK (kvs ks)) nd'
        refine ⟨_, rfl, p, r, rfl, same_kat s1 kp, ok, fun x H' nx sx kx => ?_⟩
        have hl5 : (kvs ks).length < sizeLine := by
          have kl : (kvs ks).length = ks.length := List.length_map ..
          rw [kl, sizeLine_eq]; omega
        have ed' : H' d' = some (.dK (kvs ks)) := sx _ _ upd_same
        have xd : x ≠ d' := fun q => by rw [q, upd_same] at nx; cases nx
        have nxH : H2 x = none := by rw [upd_ne xd] at nx; exact nx
        refine ⟨_, rfl, _, rfl, d', _, rfl, .inl ⟨kvs ks, Sum.inr z, ed', rfl, hl5, rfl⟩, ?_⟩
        rw [← kvs_put ks z r x]
        have hs : Same H2 H' := s1.trans sx
        have hp : Same H2 (upd H' d' (.dK (kvs (putKs ks z r x)))) := same_mut hs nd'
        have edP : upd H' d' (.dK (kvs (putKs ks z r x))) d' = some (.dK (kvs (putKs ks z r x))) := upd_same
        have katP : ∀ e ∈ putKs ks z r x, (KAt C (upd H' d' (.dK (kvs (putKs ks z r x)))) e.2.2 e.2.1 ∧ KOk e.2.1) := fun e he => by
          rcases mem_put he with h | h
          · exact ⟨same_kat hp (fa.kds.2 e h).1, (fa.kds.2 e h).2⟩
          · subst h
            obtain ⟨dk, ek⟩ := kx
            exact ⟨⟨dk, by rw [upd_ne xd]; exact ek⟩, ok⟩
        have l5 := len_put ks z r x room few
        have fed' := fed_put (z := z) (r := r) (x := x) fed src
        have k' : ((putKs ks z r x).any (lg (putKs ks z r x)) = true ∧ ∀ d' H', H2 d' = none → H' d' = some (.xd [(("value" : Str), .str z)]) → Same H2 H' → E (.ref CI) (some d') H') ∨ ((putKs ks z r x).any (lg (putKs ks z r x)) = false ∧ ∀ d' H', H2 d' = none → H2 x = none → FltAt F C H' f d' c (putKs ks z r x) cs → (∀ b o, H2 b = some o → b ≠ f → H' b = some o) → Q .non H') := k.imp (fun q => ⟨q.1 x, q.2⟩) fun q => ⟨q.1 x, fun d' => q.2 d' x⟩
        clear k
        generalize hks : putKs ks z r x = ks' at *
        generalize upd H' d' (.dK (kvs ks')) = HP at *
        have dl : (kvs ks').length = ks'.length := List.length_map ..
        refine ⟨d', _, edP, trivial, fun od => ?_⟩
        have el : upd HP d' (.frz od (.dK (kvs ks'))) d' = some (.frz od (.dK (kvs ks'))) := upd_same
        have ne : ∀ e ∈ ks', e.2.2 ≠ d' := fun e he q => by
          obtain ⟨dk, ek⟩ := (katP e he).1
          rw [q, edP] at ek
          cases ek
        have kdL : Kds C (upd HP d' (.frz od (.dK (kvs ks')))) d' ks' := ⟨.inr ⟨od, el⟩, fun e he => ⟨by
          obtain ⟨dk, ek⟩ := (katP e he).1
          exact ⟨dk, by rw [upd_ne (ne e he)]; exact ek⟩, (katP e he).2⟩⟩
        have back : ∀ H3, Same (upd HP d' (.frz od (.dK (kvs ks')))) H3 → Same HP (upd H3 d' (.dK (kvs ks'))) := fun H3 s q o e => by
          by_cases c : q = d'
          · rw [c] at e ⊢
            rw [upd_same, ← edP]; exact e
          · rw [upd_ne c]
            exact s _ _ (by rw [upd_ne c]; exact e)
        generalize upd HP d' (.frz od (.dK (kvs ks'))) = HL at *
        refine ⟨_, rfl, d', od, rfl, .inl ⟨_, el, fun D nD => lc_w walk_keys (fun i H3 => Same HL H3 ∧ H3 D = some (.lst ((ks'.take i).map fun e => V.bl (lg ks' e)))) ⟨same_new nD, upd_same⟩ (fun i H3 q => q.1 _ _ el) ?_ ?_⟩⟩
        · rintro i H3 y H4 lt ⟨s2, eD⟩ ⟨rfl, kk, vv, ek, rfl⟩
          obtain ⟨e, er, e1⟩ : ∃ e, ks'[i]? = some e ∧ (kk, vv) = ((Sum.inr e.1 : Key), V.ref e.2.2) := by
            unfold kvs at ek
            rw [List.getElem?_map] at ek
            cases c : ks'[i]? with
            | none => rw [c] at ek; cases ek
            | some e => rw [c] at ek; exact ⟨e, rfl, (Option.some.inj ek).symm⟩
          obtain ⟨rfl, rfl⟩ : kk = Sum.inr e.1 ∧ vv = V.ref e.2.2 := ⟨congrArg Prod.fst e1, congrArg Prod.snd e1⟩
          have he := List.mem_of_getElem? er
          have tk : ks'.take (i + 1) = ks'.take i ++ [e] := by rw [List.take_succ, er]; rfl
          refine ⟨rfl, yes_if ⟨_, rfl, _, rfl, d', e.1, ks', rfl, kdL.keep s2, fed', List.mem_map.mpr ⟨e, he, rfl⟩, fun l H5 nl s5 el5 => ⟨l, _, rfl, SqL.of el5, _, _, rfl, rfl, ?_⟩⟩⟩
          have fin : ∀ b : Bool, b = lg ks' e → ∃ acc, H5 D = some (.lst acc) ∧ acc.length < sizeLine ∧ Same HL (upd H5 D (.lst (acc ++ [V.bl b]))) ∧ upd H5 D (.lst (acc ++ [V.bl b])) D = some (.lst ((ks'.take (i + 1)).map fun e => V.bl (lg ks' e))) := fun b hb => by
            subst hb
            refine ⟨_, s5 _ _ eD, ?_, fun q o e => by rw [upd_ne (ne_of_none e nD)]; exact s5 _ _ (s2 _ _ e), by rw [upd_same, tk, List.map_append]; rfl⟩
            rw [List.length_map, List.length_take, sizeLine_eq]
            omega
          exact fin _ rfl
        · rintro H3 ⟨s2, eD⟩
          rw [dl, List.take_length] at eD
          refine ⟨D, ks'.map (lg ks'), rfl, SqL.of (by rw [List.map_map]; exact eD), s2 _ _ el, ?_⟩
          have al : (ks'.map (lg ks')).any id = ks'.any (lg ks') := by rw [List.any_map]; rfl
          rw [al]
          have sB := back _ s2
          generalize upd H3 d' (.dK (kvs ks')) = HB at *
          have sF := hp.trans sB
          have dne : d' ≠ f := fun q => by rw [q, ef] at nd'; cases nd'
          refine ⟨_, rfl, ?_⟩
          rcases k' with ⟨ny, q⟩ | ⟨ny, q⟩
          · rw [ny]
            exact iteT ⟨_, rfl, x_read fun d0 nd0 => q d0 _ (sF.free nd0) upd_same (sF.trans (same_new nd0))⟩
          rw [ny]
          refine iteF ⟨_, rfl, _, rfl, f, F, dx, _, rfl, sF _ _ ef, TF.cl, TF.nk, by show 2 < 1000; decide, ?_⟩
          rw [put_k2]
          have nf : ∀ {q o}, o ≠ HO.ins F dx (ff d c) → HB q = some o → q ≠ f := fun {q o} h e z => by
            rw [z, sF _ _ ef] at e
            exact h (Option.some.inj e).symm
          have keep : ∀ b o, H2 b = some o → b ≠ f → upd HB f (.ins F dx (ff d' c)) b = some o := fun b o e n => by rw [upd_ne n]; exact sF _ _ e
          refine q d' _ nd' nxH ⟨⟨dx, upd_same⟩, by rw [upd_ne dne]; exact sB _ _ edP, ⟨.inl (by rw [upd_ne dne]; exact sB _ _ edP), fun e he => ?_⟩, ?_⟩ keep
          · obtain ⟨⟨dk, ek⟩, oke⟩ := katP e he
            have nq : e.2.2 ≠ f := nf (o := .ins C dk (kflds e.2.1)) (fun q => by
              injection q with q1 q2 q3
              have q4 := congrArg List.length q3
              cases q4) (sB _ _ ek)
            exact ⟨⟨dk, by rw [upd_ne nq]; exact sB _ _ ek⟩, oke⟩
          · exact keep _ _ fa.cal fun q => by
              have z := fa.cal
              rw [q, ef] at z
              cases z
end
end K54F
namespace K54F
open PySem PySem.Spec PyProof.Rows L2 Jg
local macro_rules | `(tactic| walk_at "rd1") => `(tactic| (first
  | refine ⟨_, rfl, ?_⟩
  | refine ⟨_, _, rfl, rfl, ?_⟩
  | refine ⟨_, _, rfl, ?_⟩
  | refine ⟨rfl, ?_⟩
  | (refine ⟨show (0 : Int) < _ by omega, ?_⟩)
  | (refine ⟨Or.inl ⟨by omega, by omega⟩, ?_⟩)
  | (refine ⟨Or.inr ⟨by omega, by omega⟩, ?_⟩)
  | (refine ⟨(⟨by decide, by decide, by decide⟩ : CPow _ _), ?_⟩)
  | refine Or.inl ⟨_, rfl, ?_⟩
  | refine Or.inr ⟨_, rfl, ?_⟩
  | fail "rd"))
local macro_rules | `(tactic| walk_at "rd") => `(tactic| repeat' walk_at "rd1")
/-- what is no kind of the fleet -/
def NoKind (K : PySem.W.Frag) (H : Hp) (ks : Ks) (y : V) : Prop := (∃ z, y = .str z ∧ z.length ≤ sizeLine ∧ (wordB z = true → z ∉ ks.map (·.1))) ∨ ∃ t, (∀ H', Same H H' → TyX K H' y t) ∧ kit K t "str" false
def WdKs (ks : Ks) : Prop := ∀ e ∈ ks, e.1.length ≤ sizeLine ∧ wordB e.1 = true
def spCheck (K : PySem.W.Frag) (F C CU : Addr) : Sp := fun vs H Q E => ∃ (f d c : Addr) (y : V) (ks : Ks) (cs : List V), vs = [.ref f, y] ∧ FltAt F C H f d c ks cs ∧ WdKs ks ∧
  ((∃ z, y = .str z ∧ z ∈ ks.map (·.1) ∧ Q .non H) ∨ (NoKind K H ks y ∧ ∀ d' H', H d' = none → H' d' = some (.xd [(("name" : Str), y)]) → Same H H' → E (.ref CU) (some d') H'))
def spFChain (K : PySem.W.Frag) (F C CU : Addr) : Sp := fun vs H Q E => ∃ (f d c : Addr) (y : V) (ks : Ks) (cs : List V), vs = [.ref f, y] ∧ FltAt F C H f d c ks cs ∧ WdKs ks ∧ Fed ks ∧
  ((∃ z, y = .str z ∧ z ∈ ks.map (·.1) ∧ ∀ l H', H l = none → Same H H' → H' l = some (.lst ((chainF ks z).map V.str)) → Q (.ref l) H') ∨ (NoKind K H ks y ∧ ∀ d' H', H d' = none → H' d' = some (.xd [(("name" : Str), y)]) → Same H H' → E (.ref CU) (some d') H'))
theorem NoKind.keep {K : PySem.W.Frag} {H H' : Hp} {ks : Ks} {y : V} (h : NoKind K H ks y) (s : Same H H') : NoKind K H' ks y := h.elim .inl fun ⟨t, ty, k⟩ => .inr ⟨t, fun H2 s2 => ty H2 (s.trans s2), k⟩
theorem kd_no {ks : Ks} {z : Str} (c : z ∉ ks.map (·.1)) : kdOf ks z = none := List.find?_eq_none.mpr fun e he q => c (List.mem_map.mpr ⟨e, he, by simpa using q⟩)
theorem FltAt.keep {F C : Addr} {H H' : Hp} {f d c : Addr} {ks : Ks} {cs : List V} (h : FltAt F C H f d c ks cs) (s : Same H H') : FltAt F C H' f d c ks cs :=
  let ⟨⟨dx, e⟩, ed, k, cl⟩ := h
  ⟨⟨dx, s _ _ e⟩, s _ _ ed, k.keep s, s _ _ cl⟩
section
variable {P : Program} {w : World} {K : PySem.W.Frag} {mg : Str → Option Value} {base : Heap} {C CI CU F : Addr}
abbrev s_Fleet_check : Stmt := inClass (top 85) 7
theorem sc_Fleet_check : FnScope ["self", "name"] ["self", "name"] (defScope s_Fleet_check) := ⟨rfl, rfl, rfl, by decide +kernel, rfl, by decide +kernel, by decide +kernel⟩
theorem ok_fcheck (D : MetK K F "_check" "Fleet._check" s_Fleet_check) (T : Txt K mg C) (TF : FTx K mg F) (G_is_word : Cal P w K mg base CX0 1 "is_word" (spWord K)) (G_UnknownName : ExnB P w K mg base 1 "UnknownName" CU (spX CU "name")) : Met P w K mg base (L2.CX P w) 3 F "_check" (spCheck K F C CU) := by
  refine D.metX sc_Fleet_check (fun _ _ _ _ _ _ us hl => match us, hl with | [_, _], _ => rfl) (fun vs H Q E h => ?_) fun f cdv A outer s H vs Q E hr h => ?_
  · obtain ⟨f, d, c, y, ks, cs, rfl, _⟩ := h; rfl
  · obtain ⟨f, d, c, y, ks, cs, rfl, fa, wd, h⟩ := h
    have hu1 : (A.deeper (envOfC "Fleet._check" (defScope s_Fleet_check) s.heap.objs.size f cdv)).units + 1 < cLine := Nat.lt_of_le_of_lt (Nat.add_le_add_left (by decide : 1 ≤ 64) _) hr.units
    obtain ⟨dx, ef⟩ := id fa.at_
    have kdz : ∀ y : Str, DGet H d (V.str y) (valV (kvs ks) (Sum.inr y)) := fun y => .inl ⟨kvs ks, Sum.inr y, .inl fa.ed, rfl, rfl⟩
    refine ⟨_, (pss_one (ps_if (PW.pt (pw_or (pt_not (pt_val (pe_c G_is_word hr (by decide) rfl (pa_cons (pv 1) pa_nil)))) (pw_or1 (pt_cmp (pc_dnotin hu1 (pv 1) (pe_fld (pv 0) rfl)))))) (pss_one (ps_raise rfl (takes_of rfl rfl rfl rfl) (pmk_b G_UnknownName hr (by decide) rfl (pa_cons (pv 1) pa_nil)))) pss_nil)), ?_⟩
    rcases h with ⟨z, rfl, mem, q⟩ | ⟨⟨z, rfl, hz, no⟩ | ⟨t, ty, kt⟩, k⟩
    · obtain ⟨e1, k1, m1, z1⟩ := kd_mem mem
      refine ⟨_, rfl, .str z, rfl, .inl ⟨z, rfl, z1 ▸ (wd e1 m1).1, _, rfl, ?_⟩⟩
      rw [show wordB z = true from z1 ▸ (wd e1 m1).2]
      refine iteF ⟨_, rfl, _, rfl, f, F, dx, _, _, rfl, ef, TF.cl, TF.nk, get_k _ _, d, _, rfl, kdz z, _, rfl, ?_⟩
      rw [kd_val, k1]
      exact iteF q
    · refine ⟨_, rfl, .str z, rfl, .inl ⟨z, rfl, hz, _, rfl, ?_⟩⟩
      cases cw : wordB z with
      | false => exact iteT (iteT ⟨_, rfl, x_read fun d nd => k d _ nd upd_same (same_new nd)⟩)
      | true =>
        refine iteF ⟨_, rfl, _, rfl, f, F, dx, _, _, rfl, ef, TF.cl, TF.nk, get_k _ _, d, _, rfl, kdz z, _, rfl, ?_⟩
        rw [kd_val, kd_no (no cw)]
        exact iteT ⟨_, rfl, x_read fun d nd => k d _ nd upd_same (same_new nd)⟩
    · exact ⟨_, rfl, y, rfl, .inr ⟨t, ty _ (.refl _), kt, _, rfl, iteT (iteT ⟨_, rfl, x_read fun d nd => k d _ nd upd_same (same_new nd)⟩)⟩⟩
abbrev s_Fleet_chain : Stmt := inClass (top 85) 9
theorem sc_Fleet_chain : FnScope ["self", "kind"] ["self", "kind"] (defScope s_Fleet_chain) := ⟨rfl, rfl, rfl, by decide +kernel, rfl, by decide +kernel, by decide +kernel⟩
theorem ok_fchain (D : MetK K F "chain" "Fleet.chain" s_Fleet_chain) (T : Txt K mg C) (TF : FTx K mg F) (M_check : Met P w K mg base (L2.CX P w) 3 F "_check" (spCheck K F C CU)) (G_chain_to : Cal P w K mg base CX0 3 "_chain_to" (spChain C)) : Met P w K mg base (L2.CX P w) 4 F "chain" (spFChain K F C CU) := by
  refine D.metX sc_Fleet_chain (fun _ _ _ _ _ _ us hl => match us, hl with | [_, _], _ => rfl) (fun vs H Q E h => ?_) fun f cdv A outer s H vs Q E hr h => ?_
  · obtain ⟨f, d, c, y, ks, cs, rfl, _⟩ := h; rfl
  · obtain ⟨f, d, c, y, ks, cs, rfl, fa, wd, fed, h⟩ := h
    obtain ⟨dx, ef⟩ := id fa.at_
    refine ⟨_, (pss_cons (ps_expr (pe_mS M_check TF.cl (takes_of rfl rfl rfl rfl) hr (by decide) (pv 0) (pa_cons (pv 1) pa_nil)))
      (pss_one (ps_ret (pe_c G_chain_to hr (by decide) rfl (pa_cons (pe_fld (pv 0) rfl) (pa_cons (pv 1) pa_nil)))))), ?_⟩
    rcases h with ⟨z, rfl, mem, q⟩ | ⟨no, k⟩
    · refine ⟨_, rfl, f, dx, _, rfl, ef, get_fno _ _ (by decide +kernel) (by decide +kernel), _, rfl, f, d, c, _, ks, cs, rfl, fa, wd, .inl ⟨z, rfl, mem, ?_⟩⟩
      exact ⟨_, rfl, f, F, dx, _, _, rfl, ef, TF.cl, TF.nk, get_k _ _, _, rfl, d, z, ks, rfl, fa.kds, fed, mem, q⟩
    · exact ⟨_, rfl, f, dx, _, rfl, ef, get_fno _ _ (by decide +kernel) (by decide +kernel), _, rfl, f, d, c, _, ks, cs, rfl, fa, wd, .inr ⟨no, k⟩⟩
/-- what a kind adds to the lateness -/
def addK (r : Kd) : Int := match r.a with
  | none => r.g - 1
  | some a => 2 * r.g + a - 2
def addZ (ks : Ks) (z : Str) : Int := match kdOf ks z with
  | none => 0
  | some e => addK e.2.1
def lateF (ks : Ks) (zs : List Str) : Int := zs.foldl (fun t z => t + addZ ks z) 1
theorem late_step (ks : Ks) (zs : List Str) (z : Str) : lateF ks (zs ++ [z]) = lateF ks zs + addZ ks z := by
  unfold lateF
  rw [List.foldl_append]
  rfl
theorem chainB_mem {ks : Ks} (fed : Fed ks) : ∀ (n : Nat) (acc : List Str) (so : Option Str), (∀ y ∈ acc, y ∈ ks.map (·.1)) → (∀ y, so = some y → y ∈ ks.map (·.1)) → ∀ y ∈ chainB ks n acc so, y ∈ ks.map (·.1)
  | 0, acc, so, h, _ => h
  | n + 1, acc, none, h, _ => h
  | n + 1, acc, some z, h, h2 => by
    refine chainB_mem fed n (z :: acc) (srcOf ks z) (fun y hy => ?_) fun y e => ?_
    · rcases List.mem_cons.mp hy with q | q
      · rw [q]; exact h2 z rfl
      · exact h y q
    · unfold srcOf at e
      cases c : kdOf ks z with
      | none => rw [c] at e; cases e
      | some o =>
        rw [c] at e
        exact fed o (List.mem_of_find?_eq_some c) y e
theorem chain_mem {ks : Ks} (fed : Fed ks) {z : Str} (h : z ∈ ks.map (·.1)) : ∀ y ∈ chainF ks z, y ∈ ks.map (·.1) := by
  refine chainB_mem fed 4 [z] (srcOf ks z) (fun y hy => by rw [List.mem_singleton.mp hy]; exact h) fun y e => ?_
  obtain ⟨o, c, m, _⟩ := kd_mem h
  unfold srcOf at e
  rw [c] at e
  exact fed o m y e
def spLate (K : PySem.W.Frag) (F C CU : Addr) : Sp := fun vs H Q E => ∃ (f d c : Addr) (y : V) (ks : Ks) (cs : List V), vs = [.ref f, y] ∧ FltAt F C H f d c ks cs ∧ WdKs ks ∧ Fed ks ∧
  ((∃ z, y = .str z ∧ z ∈ ks.map (·.1) ∧ ∀ H', Same H H' → Q (.int (lateF ks (chainF ks z))) H') ∨ (NoKind K H ks y ∧ ∀ d' H', H d' = none → H' d' = some (.xd [(("name" : Str), y)]) → Same H H' → E (.ref CU) (some d') H'))
abbrev s_Fleet_lateness : Stmt := inClass (top 85) 10
theorem sc_Fleet_lateness : FnScope ["self", "kind", "lateness", "name", "link"] ["self", "kind"] (defScope s_Fleet_lateness) := ⟨rfl, rfl, rfl, by decide +kernel, rfl, by decide +kernel, by decide +kernel⟩
theorem ok_flate (D : MetK K F "lateness" "Fleet.lateness" s_Fleet_lateness) (T : Txt K mg C) (TF : FTx K mg F) (M_chain : Met P w K mg base (L2.CX P w) 4 F "chain" (spFChain K F C CU)) (G_gap : Prp P w K mg base CX0 1 C "gap" (spPrp C fun r => .int r.g)) (G_age : Prp P w K mg base CX0 1 C "age" (spPrp C fun r => oV r.a)) : Met P w K mg base (L2.CX P w) 5 F "lateness" (spLate K F C CU) := by
  refine D.metX sc_Fleet_lateness (fun _ _ _ _ _ _ us hl => match us, hl with | [_, _], _ => rfl) (fun vs H Q E h => ?_) fun f cdv A outer s H vs Q E hr h => ?_
  · obtain ⟨f, d, c, y, ks, cs, rfl, _⟩ := h; rfl
  · obtain ⟨f, d, c, y, ks, cs, rfl, fa, wd, fed, h⟩ := h
    have hu1 : (A.deeper (envOfC "Fleet.lateness" (defScope s_Fleet_lateness) s.heap.objs.size f cdv)).units + 1 < cLine := Nat.lt_of_le_of_lt (Nat.add_le_add_left (by decide : 1 ≤ 64) _) hr.units
    obtain ⟨dx, ef⟩ := id fa.at_
    refine ⟨_, (pss_cons (ps_set (i := 2) sc_Fleet_lateness.nd rfl (Or.inl rfl) pe_int)
      (pss_cons (ps_for (passes_of rfl) rfl (pi_list (pe_mS M_chain TF.cl (takes_of rfl rfl rfl rfl) hr (by decide) (pv 0) (pa_cons (pv 1) pa_nil))) (pg_name (i := 3) sc_Fleet_lateness.nd rfl (Or.inl rfl)) (pss_cons (ps_set (i := 4) sc_Fleet_lateness.nd rfl (Or.inl rfl) (pe_dget hu1 (pe_fld (pv 0) rfl) (pv 3) (fun _ _ => rfl)))
      (pss_one (ps_if (pt_cmpR op_isN (pe_p G_age T.cl hr (by decide) (pv 4)) pe_non (nomark _)) (pss_one (ps_set (i := 2) sc_Fleet_lateness.nd rfl (Or.inl rfl) (pe_op op_sub (pe_op op_add (pv 2) (pe_p G_gap T.cl hr (by decide) (pv 4))) pe_int))) (pss_one (ps_set (i := 2) sc_Fleet_lateness.nd rfl (Or.inl rfl) (pe_op op_sub (pe_op op_add (pe_op op_add (pv 2) (pe_op op_mul pe_int (pe_p G_gap T.cl hr (by decide) (pv 4)))) (pe_p G_age T.cl hr (by decide) (pv 4))) pe_int)))))))
      (pss_one (ps_ret (pv 2))))), ?_⟩
    rcases h with ⟨z, rfl, mem, q⟩ | ⟨no, k⟩
    · refine ⟨_, rfl, f, dx, _, rfl, ef, get_fno _ _ (by decide +kernel) (by decide +kernel), _, rfl, f, d, c, _, ks, cs, rfl, fa, wd, fed, .inl ⟨z, rfl, mem, fun l H1 nl s1 el => ?_⟩⟩
      refine ⟨l, rfl, ⟨_, SqL.of el⟩, for_list (K := K) (a := l) (xs := (chainF ks z).map V.str) (fun i sg H' => ∃ v3 v4 : Option V, sg = [some (.ref f), some (.str z), some (.int (lateF ks ((chainF ks z).take i))), v3, v4] ∧ Same H1 H') ?_ ?_ ?_ ?_⟩
      · exact ⟨none, none, rfl, Same.refl _⟩
      · rintro i σ H' _ ⟨v3, v4, rfl, s2⟩
        exact SqL.of (s2 _ _ el)
      · rintro i x σ H' ex ⟨v3, v4, rfl, s2⟩
        rw [List.getElem?_map] at ex
        cases ey : (chainF ks z)[i]? with
        | none => rw [ey] at ex; cases ex
        | some y =>
          rw [ey] at ex
          cases ex
          have sH := s1.trans s2
          have faH := fa.keep sH
          obtain ⟨e1, k1, m1, z1⟩ := kd_mem (chain_mem fed mem y (List.mem_of_getElem? ey))
          obtain ⟨⟨dk, ek⟩, ok1⟩ := faH.kds.2 e1 m1
          have kk : KAt C H' e1.2.2 e1.2.1 := ⟨dk, ek⟩
          have tk : (chainF ks z).take (i + 1) = (chainF ks z).take i ++ [y] := by rw [List.take_succ, ey]; rfl
          have az : addZ ks y = addK e1.2.1 := by unfold addZ; rw [k1]
          have fin : ∀ t : Int, t = lateF ks ((chainF ks z).take i) + addK e1.2.1 → V.int t = V.int (lateF ks ((chainF ks z).take (i + 1))) := fun t e => by rw [tk, late_step, az, e]
          refine ⟨_, rfl, f, F, dx, _, _, rfl, sH _ _ ef, TF.cl, TF.nk, get_k _ _, _, rfl, d, .ref e1.2.2, rfl, dget faH.kds k1, ?_⟩
          refine ⟨_, rfl, e1.2.2, dk, _, rfl, ek, e1.2.2, e1.2.1, rfl, kk, rfl, _, rfl, ?_⟩
          unfold addK at fin
          cases ea : e1.2.1.a with
          | none =>
            rw [ea] at fin
            refine iteTe (show decide (oV e1.2.1.a = V.non) = true by rw [ea]; rfl) ⟨_, rfl, _, rfl, e1.2.2, dk, _, rfl, ek, e1.2.2, e1.2.1, rfl, kk, _, _, rfl, rfl, _, _, rfl, rfl, ?_⟩
            exact ⟨some (V.str y), some (V.ref e1.2.2), by rw [← fin (lateF ks ((chainF ks z).take i) + e1.2.1.g - 1) (by show _ = _ + (e1.2.1.g - 1); omega)]; rfl, s2⟩
          | some a =>
            rw [ea] at fin
            refine iteFe (show decide (oV e1.2.1.a = V.non) = false by rw [ea]; rfl) ⟨_, rfl, _, rfl, e1.2.2, dk, _, rfl, ek, e1.2.2, e1.2.1, rfl, kk, 2, e1.2.1.g, rfl, rfl, .inl ⟨by decide, by decide⟩, _, _, rfl, rfl, _, rfl, e1.2.2, dk, _, rfl, ek, e1.2.2, e1.2.1, rfl, kk, lateF ks ((chainF ks z).take i) + 2 * e1.2.1.g, a, rfl, (show oV e1.2.1.a = .int a by rw [ea]; rfl), _, _, rfl, rfl, ?_⟩
            exact ⟨some (V.str y), some (V.ref e1.2.2), by rw [← fin (lateF ks ((chainF ks z).take i) + 2 * e1.2.1.g + a - 2) (by show _ = _ + (2 * e1.2.1.g + a - 2); omega)]; rfl, s2⟩
      · rintro σ H' ⟨v3, v4, rfl, s2⟩
        rw [List.length_map, List.take_length]
        exact ⟨_, rfl, q _ (s1.trans s2)⟩
    · exact ⟨_, rfl, f, dx, _, rfl, ef, get_fno _ _ (by decide +kernel) (by decide +kernel), _, rfl, f, d, c, _, ks, cs, rfl, fa, wd, fed, .inr ⟨no, k⟩⟩
def spNames (F C : Addr) : Sp := fun vs H Q _ => ∃ (f d c : Addr) (ks : Ks) (cs : List V), vs = [.ref f] ∧ FltAt F C H f d c ks cs ∧ ks.length ≤ 5 ∧ ∀ l ys H', List.Perm ys (onceW (ks.map (·.1))) → sortedS ys = true → H l = none → Same H H' → H' l = some (.lst (ys.map V.str)) → Q (.ref l) H'
abbrev s_Fleet_names : Stmt := inClass (top 85) 8
theorem sc_Fleet_names : FnScope ["self"] ["self"] (defScope s_Fleet_names) := ⟨rfl, rfl, rfl, by decide +kernel, rfl, by decide +kernel, by decide +kernel⟩
theorem ok_fnames (D : MetK K F "names" "Fleet.names" s_Fleet_names) (T : Txt K mg C) (TF : FTx K mg F) : Met P w K mg base CX0 1 F "names" (spNames F C) := by
  refine D.met sc_Fleet_names (fun _ _ _ _ _ _ us hl => match us, hl with | [_], _ => rfl) (fun vs H Q E h => ?_) fun f cdv A outer s H vs Q E hr h => ?_
  · obtain ⟨f, d, c, ks, cs, rfl, _⟩ := h; rfl
  · obtain ⟨f, d, c, ks, cs, rfl, fa, few, k⟩ := h
    obtain ⟨dx, ef⟩ := id fa.at_
    refine ⟨_, (pss_one (ps_ret (pe_callB (r := rSortW (cxOf CX0 P w K mg base ["self"] "Fleet.names" (defScope s_Fleet_names) f cdv A outer s H E)) (cr_sortW rfl) (by rfl) T.b_sorted (by decide +kernel) (pa_cons (pe_callTy cr_setWD (by rfl) T.b_set (by decide +kernel) (pa_cons (pe_fld (pv 0) rfl) pa_nil)) pa_nil)))), ?_⟩
    have hk : (kvs ks).map (·.1) = (ks.map (·.1)).map Sum.inr := by
      unfold kvs
      rw [List.map_map, List.map_map]
      rfl
    have hl : (ks.map (·.1)).length ≤ 5 := by rw [List.length_map]; exact few
    refine ⟨_, rfl, f, F, dx, _, _, rfl, ef, TF.cl, TF.nk, get_k _ _, d, kvs ks, ks.map (·.1), rfl, fa.ed, hk, by omega, fun p np => ⟨p, _, rfl, upd_same, ?_, fun ys l pm so nl => ?_⟩⟩
    · have q := onceW_len (ks.map (·.1))
      omega
    · have s1 := same_new (o := SetWO P w p (onceW (ks.map (·.1)))) np
      exact k l ys _ pm so (s1.free nl) (s1.trans (same_new nl)) upd_same
end
end K54F
namespace K54F
open PySem PySem.Spec PyProof.Rows L2 Jg
local macro_rules | `(tactic| walk_at "rd1") => `(tactic| (first
  | refine ⟨_, rfl, ?_⟩
  | refine ⟨_, _, rfl, rfl, ?_⟩
  | refine ⟨_, _, rfl, ?_⟩
  | refine ⟨rfl, ?_⟩
  | (refine ⟨show (0 : Int) < _ by omega, ?_⟩)
  | (refine ⟨Or.inl ⟨by omega, by omega⟩, ?_⟩)
  | (refine ⟨Or.inr ⟨by omega, by omega⟩, ?_⟩)
  | (refine ⟨(⟨by decide, by decide, by decide⟩ : CPow _ _), ?_⟩)
  | refine Or.inl ⟨_, rfl, ?_⟩
  | refine Or.inr ⟨_, rfl, ?_⟩
  | fail "rd"))
local macro_rules | `(tactic| walk_at "rd") => `(tactic| repeat' walk_at "rd1")
/-! calls of a fleet -/
structure TxM (K : PySem.W.Frag) (mg : Str → Option Value) : Prop where
  gMOST_CALLS : ∃ u, mg "MOST_CALLS" = some u ∧ L2.RelV (.int 6) u
  b_zip : mg "zip" = none
def spCalls (F C : Addr) : Sp := fun vs H Q _ => ∃ (f d c : Addr) (ks : Ks) (cs : List V), vs = [.ref f] ∧ FltAt F C H f d c ks cs ∧ ∀ l, H l = none → Q (.ref l) (upd H l (.lst cs))
def callT (z0 z1 z2 : Str) (i : Int) : List V := [.str z0, .str z1, .str z2, .int i]
def spAdd (K : PySem.W.Frag) (F C CA CU CM CO : Addr) : Sp := fun vs H Q E => ∃ (f d c : Addr) (y0 y1 y2 y3 : V) (ks : Ks) (cs : List V), vs = [.ref f, y0, y1, y2, y3] ∧ FltAt F C H f d c ks cs ∧ WdKs ks ∧
  ((BadW K H y0 ∧ ∀ d' H', H d' = none → H' d' = some (.xd [(("value" : Str), y0)]) → Same H H' → E (.ref CA) (some d') H') ∨ ∃ z0, y0 = .str z0 ∧ z0.length ≤ sizeLine ∧ wordB z0 = true ∧
  ((NoKind K H ks y1 ∧ ∀ d' H', H d' = none → H' d' = some (.xd [(("name" : Str), y1)]) → Same H H' → E (.ref CU) (some d') H') ∨ ∃ z1, y1 = .str z1 ∧ z1 ∈ ks.map (·.1) ∧
  ((NoKind K H ks y2 ∧ ∀ d' H', H d' = none → H' d' = some (.xd [(("name" : Str), y2)]) → Same H H' → E (.ref CU) (some d') H') ∨ ∃ z2, y2 = .str z2 ∧ z2 ∈ ks.map (·.1) ∧
  ((BadR K H 0 L y3 ∧ ∀ d' H', H d' = none → H' d' = some (.xd [(("value" : Str), y3)]) → Same H H' → E (.ref CM) (some d') H') ∨ ∃ i, y3 = .int i ∧ 0 ≤ i ∧ i ≤ L ∧
  ((cs.length = 6 ∧ ∀ d' H', H d' = none → H' d' = some (.xd [(("limit" : Str), .int 6)]) → Same H H' → E (.ref CO) (some d') H') ∨
   (cs.length < 6 ∧ ∀ t, H t = none → Q (.int cs.length) (upd (upd H t (.tup (callT z0 z1 z2 i))) c (.lst (cs ++ [.ref t])))))))))
section
variable {P : Program} {w : World} {K : PySem.W.Frag} {mg : Str → Option Value} {base : Heap} {C CA CU CM CO FC : Addr}
abbrev s_InvalidCall_init : Stmt := inClass (top 8) 0
theorem sc_InvalidCall_init : FnScope ["self", "value"] ["self", "value"] (defScope s_InvalidCall_init) := ⟨rfl, rfl, rfl, by decide +kernel, rfl, by decide +kernel, by decide +kernel⟩
theorem ok_cinit (D : ExnQ K mg "InvalidCall" CA "InvalidCall.__init__" s_InvalidCall_init "value") : ExnB P w K mg base 1 "InvalidCall" CA (spX CA "value") := by
  obtain ⟨fI, fd, F, a, ty⟩ := D.ini
  refine ⟨D.mg_, D.ovr, fI, fd, _, F.ok sc_InvalidCall_init (fun vs H Q E h => ?_) (fun cdv A outer s H vs Q E hr h => ?_), a, ty, F.binds (fun _ _ _ _ _ _ us hl => match us, hl with | [_, _], _ => rfl)⟩
  · obtain ⟨a, y, rfl, _⟩ := h; rfl
  · obtain ⟨a, y, rfl, ha, k⟩ := h
    exact ⟨_, (pss_one (ps_keep (pv 0) (pv 1))), _, rfl, _, rfl, a, CA, rfl, D.ovr, D.no, ha, fun dx n e => k dx n e⟩
abbrev s_InvalidMoment_init : Stmt := inClass (top 4) 0
theorem sc_InvalidMoment_init : FnScope ["self", "value"] ["self", "value"] (defScope s_InvalidMoment_init) := ⟨rfl, rfl, rfl, by decide +kernel, rfl, by decide +kernel, by decide +kernel⟩
theorem ok_minit (D : ExnQ K mg "InvalidMoment" CM "InvalidMoment.__init__" s_InvalidMoment_init "value") : ExnB P w K mg base 1 "InvalidMoment" CM (spX CM "value") := by
  obtain ⟨fI, fd, F, a, ty⟩ := D.ini
  refine ⟨D.mg_, D.ovr, fI, fd, _, F.ok sc_InvalidMoment_init (fun vs H Q E h => ?_) (fun cdv A outer s H vs Q E hr h => ?_), a, ty, F.binds (fun _ _ _ _ _ _ us hl => match us, hl with | [_, _], _ => rfl)⟩
  · obtain ⟨a, y, rfl, _⟩ := h; rfl
  · obtain ⟨a, y, rfl, ha, k⟩ := h
    exact ⟨_, (pss_one (ps_keep (pv 0) (pv 1))), _, rfl, _, rfl, a, CM, rfl, D.ovr, D.no, ha, fun dx n e => k dx n e⟩
abbrev s_Fleet_calls : Stmt := inClass (top 85) 12
theorem sc_Fleet_calls : FnScope ["self"] ["self"] (defScope s_Fleet_calls) := ⟨rfl, rfl, rfl, by decide +kernel, rfl, by decide +kernel, by decide +kernel⟩
theorem ok_fcalls (D : MetK K FC "calls" "Fleet.calls" s_Fleet_calls) (T : Txt K mg C) (TF : FTx K mg FC) : Met P w K mg base CX0 1 FC "calls" (spCalls FC C) := by
  refine D.met sc_Fleet_calls (fun _ _ _ _ _ _ us hl => match us, hl with | [_], _ => rfl) (fun vs H Q E h => ?_) fun f cdv A outer s H vs Q E hr h => ?_
  · obtain ⟨f, d, c, ks, cs, rfl, _⟩ := h; rfl
  · obtain ⟨f, d, c, ks, cs, rfl, fa, k⟩ := h
    obtain ⟨dx, ef⟩ := id fa.at_
    refine ⟨_, (pss_one (ps_ret (pe_callTy (r := rListOf K) cr_listOf (by rfl) T.b_list (by decide +kernel) (pa_cons (pe_fld (pv 0) rfl) pa_nil)))), ?_⟩
    exact ⟨_, rfl, f, FC, dx, _, _, rfl, ef, TF.cl, TF.nc, get_c _ _, c, cs, rfl, .inl (SqL.of fa.cal), fun l nl => k l nl⟩
abbrev s_Fleet_add_call : Stmt := inClass (top 85) 11
theorem sc_Fleet_add_call : FnScope ["self", "role", "client", "server", "life"] ["self", "role", "client", "server", "life"] (defScope s_Fleet_add_call) := ⟨rfl, rfl, rfl, by decide +kernel, rfl, by decide +kernel, by decide +kernel⟩
theorem body_add (T : Txt K mg C) (T4 : TxM K mg) (TF : FTx K mg FC) (M_check : Met P w K mg base (L2.CX P w) 3 FC "_check" (spCheck K FC C CU)) (G_is_word : Cal P w K mg base CX0 1 "is_word" (spWord K)) (G_is_between : Cal P w K mg base CX0 2 "is_between" (spBtwn K)) (G_InvalidCall : ExnB P w K mg base 1 "InvalidCall" CA (spX CA "value")) (G_InvalidMoment : ExnB P w K mg base 1 "InvalidMoment" CM (spX CM "value")) (G_LimitExceeded : ExnB P w K mg base 1 "LimitExceeded" CO (spX CO "limit"))
    (ff : Addr) : BodyX P w K mg base ["self", "role", "client", "server", "life"] "Fleet.add_call" s_Fleet_add_call ff 4 (spAdd K FC C CA CU CM CO) := by
  intro cdv A outer s H vs Q E hr h
  obtain ⟨f, d, c, y0, y1, y2, y3, ks, cs, rfl, fa, wd, h⟩ := h
  refine ⟨_, (pss_cons (ps_if (pt_not (pt_val (pe_c G_is_word hr (by decide) rfl (pa_cons (pv 1) pa_nil)))) (pss_one (ps_raise rfl (takes_of rfl rfl rfl rfl) (pmk_b G_InvalidCall hr (by decide) rfl (pa_cons (pv 1) pa_nil)))) pss_nil)
      (pss_cons (ps_expr (pe_mS M_check TF.cl (takes_of rfl rfl rfl rfl) hr (by decide) (pv 0) (pa_cons (pv 2) pa_nil)))
      (pss_cons (ps_expr (pe_mS M_check TF.cl (takes_of rfl rfl rfl rfl) hr (by decide) (pv 0) (pa_cons (pv 3) pa_nil)))
      (pss_cons (ps_if (pt_not (pt_val (pe_c G_is_between hr (by decide) rfl (pa_cons (pv 4) (pa_cons pe_int (pa_cons (pe_gc rfl T.gLONGEST) pa_nil)))))) (pss_one (ps_raise rfl (takes_of rfl rfl rfl rfl) (pmk_b G_InvalidMoment hr (by decide) rfl (pa_cons (pv 4) pa_nil)))) pss_nil)
      (pss_cons (ps_if (pt_cmpR op_eq (pe_callB (r := rLenL K) (call_lenK rfl) (by rfl) T.b_len (by decide +kernel) (pa_cons (pe_fld (pv 0) rfl) pa_nil)) (pe_gc rfl T4.gMOST_CALLS) (nomark _)) (pss_one (ps_raise rfl (takes_of rfl rfl rfl rfl) (pmk_b G_LimitExceeded hr (by decide) rfl (pa_cons (pe_gc rfl T4.gMOST_CALLS) pa_nil)))) pss_nil)
      (pss_cons (ps_expr (pe_bm F.plainAttrs_list F.slot_list_append F.type_list_append mt_append (pe_fld (pv 0) rfl) (pa_cons (pe_tup (pa_cons (pv 1) (pa_cons (pv 2) (pa_cons (pv 3) (pa_cons (pv 4) pa_nil))))) pa_nil)))
      (pss_one (ps_ret (pe_op op_sub (pe_callB (r := rLenL K) (call_lenK rfl) (by rfl) T.b_len (by decide +kernel) (pa_cons (pe_fld (pv 0) rfl) pa_nil)) pe_int))))))))), ?_⟩
  obtain ⟨dx, ef⟩ := id fa.at_
  have gf : ∀ {m : Str}, (m == ("_kinds" : Str)) = false → (m == ("_calls" : Str)) = false → (K54F.ff d c).lookup m = none := fun h1 h2 => get_fno d c h1 h2
  rcases h with ⟨bad, k⟩ | ⟨z0, rfl, hz0, wz0, h⟩
  · rcases bad with ⟨z, rfl, hz, wz⟩ | ⟨t, ty, kt⟩
    · refine ⟨_, rfl, .str z, rfl, .inl ⟨z, rfl, hz, _, rfl, ?_⟩⟩
      rw [wz]
      exact iteT ⟨_, rfl, x_read fun d nd => k d _ nd upd_same (same_new nd)⟩
    · exact ⟨_, rfl, y0, rfl, .inr ⟨t, ty _ (.refl _), kt, _, rfl, iteT ⟨_, rfl, x_read fun d nd => k d _ nd upd_same (same_new nd)⟩⟩⟩
  refine ⟨_, rfl, .str z0, rfl, .inl ⟨z0, rfl, hz0, _, rfl, ?_⟩⟩
  rw [wz0]
  refine iteF ?_
  rcases h with ⟨bad, k⟩ | ⟨z1, rfl, m1, h⟩
  · exact ⟨_, rfl, f, dx, _, rfl, ef, get_fno _ _ (by decide +kernel) (by decide +kernel), _, rfl, f, d, c, _, ks, cs, rfl, fa, wd, .inr ⟨bad, k⟩⟩
  refine ⟨_, rfl, f, dx, _, rfl, ef, get_fno _ _ (by decide +kernel) (by decide +kernel), _, rfl, f, d, c, _, ks, cs, rfl, fa, wd, .inl ⟨z1, rfl, m1, ?_⟩⟩
  rcases h with ⟨bad, k⟩ | ⟨z2, rfl, m2, h⟩
  · exact ⟨_, rfl, f, dx, _, rfl, ef, get_fno _ _ (by decide +kernel) (by decide +kernel), _, rfl, f, d, c, _, ks, cs, rfl, fa, wd, .inr ⟨bad, k⟩⟩
  refine ⟨_, rfl, f, dx, _, rfl, ef, get_fno _ _ (by decide +kernel) (by decide +kernel), _, rfl, f, d, c, _, ks, cs, rfl, fa, wd, .inl ⟨z2, rfl, m2, ?_⟩⟩
  rcases h with ⟨bad, k⟩ | ⟨i, rfl, i0, iL, h⟩
  · rcases bad with ⟨i, rfl, e⟩ | no
    · refine ⟨_, rfl, .int i, 0, L, rfl, .inl ⟨i, rfl, _, rfl, ?_⟩⟩
      rw [e]
      exact iteT ⟨_, rfl, x_read fun d nd => k d _ nd upd_same (same_new nd)⟩
    · exact ⟨_, rfl, y3, 0, L, rfl, .inr ⟨no, _, rfl, iteT ⟨_, rfl, x_read fun d nd => k d _ nd upd_same (same_new nd)⟩⟩⟩
  refine ⟨_, rfl, .int i, 0, L, rfl, .inl ⟨i, rfl, _, rfl, ?_⟩⟩
  rw [decide_eq_true i0, decide_eq_true iL]
  refine iteF ?_
  have ec := fa.cal
  have cf : c ≠ f := fun q => by rw [q, ef] at ec; cases ec
  refine ⟨_, rfl, f, FC, dx, _, _, rfl, ef, TF.cl, TF.nc, get_c _ _, c, cs, rfl, SqL.of ec, rfl, _, rfl, ?_⟩
  rcases h with ⟨l6, k⟩ | ⟨l6, k⟩
  · exact iteTe (show decide (V.int (cs.length : Int) = V.int 6) = true from decide_eq_true (by rw [l6]; rfl)) (x_read fun d nd => k d _ nd upd_same (same_new nd))
  · refine iteFe (show decide (V.int (cs.length : Int) = V.int 6) = false from decide_eq_false fun q => by injection q with q; omega) ?_
    refine ⟨_, rfl, f, FC, dx, _, _, rfl, ef, TF.cl, TF.nc, get_c _ _, .inl ⟨rfl, _, .inl (.inl ec)⟩, _, rfl, _, rfl, _, rfl, _, rfl, (by show 4 ≤ sizeLine; decide), fun t nt => ?_⟩
    have tc : t ≠ c := fun q => by rw [q, ec] at nt; cases nt
    have ec1 := (same_new (o := .tup (callT z0 z1 z2 i)) nt) _ _ ec
    have ef1 := (same_new (o := .tup (callT z0 z1 z2 i)) nt) _ _ ef
    refine ⟨c, cs, _, rfl, rfl, ec1, by rw [sizeLine_eq]; omega, ?_⟩
    refine ⟨_, rfl, f, FC, dx, _, _, rfl, by rw [upd_ne cf.symm]; exact ef1, TF.cl, TF.nc, get_c _ _, c, _, rfl, SqL.of upd_same, _, _, rfl, rfl, ?_⟩
    show Q (.int ((((cs ++ [V.ref t]).length : Nat) : Int) - 1)) _
    rw [show (((cs ++ [V.ref t]).length : Nat) : Int) - 1 = (cs.length : Int) by rw [List.length_append]; show ((cs.length + 1 : Nat) : Int) - 1 = _; omega]
    exact k t nt
end
end K54F
namespace K54R
open PySem PySem.Spec PyProof.Rows L2 Jg
local macro_rules | `(tactic| walk_at "rd1") => `(tactic| (first
  | refine ⟨_, rfl, ?_⟩
  | refine ⟨_, _, rfl, rfl, ?_⟩
  | refine ⟨_, _, rfl, ?_⟩
  | refine ⟨rfl, ?_⟩
  | (refine ⟨show (0 : Int) < _ by omega, ?_⟩)
  | (refine ⟨Or.inl ⟨by omega, by omega⟩, ?_⟩)
  | (refine ⟨Or.inr ⟨by omega, by omega⟩, ?_⟩)
  | (refine ⟨(⟨by decide, by decide, by decide⟩ : CPow _ _), ?_⟩)
  | refine Or.inl ⟨_, rfl, ?_⟩
  | refine Or.inr ⟨_, rfl, ?_⟩
  | fail "rd"))
local macro_rules | `(tactic| walk_at "rd") => `(tactic| repeat' walk_at "rd1")
def top (i : Nat) : Stmt := PySem.Challenge.pw_gaplesskeys_k54_wrong_taking_back.main.body.getD i (.Pass ⟨0, 0, 0, 0⟩)
def B : Int := 10 ^ 60
theorem B_eq : B = 1000000000000000000000000000000000000000000000000000000000000 := by decide +kernel
/-! ### the data of a range -/
theorem klh : ¬ (("_low" : Str) = "_high") := by decide +kernel
def flds (r : Int × Int) : List (Str × V) := [("_low", .int r.1), ("_high", .int r.2)]
theorem put_hi (lo hi : Int) : putF "_high" (.int hi) [(("_low" : Str), V.int lo)] = flds (lo, hi) := by
  show (if ("_low" : Str) = "_high" then _ else _) = _
  rw [if_neg klh]; rfl
theorem put_lo2 (r : Int × Int) (z : Int) : putF "_low" (.int z) (flds r) = flds (z, r.2) := by
  show (if ("_low" : Str) = "_low" then _ else _) = _
  rw [if_pos rfl]; rfl
theorem put_hi2 (r : Int × Int) (z : Int) : putF "_high" (.int z) (flds r) = flds (r.1, z) := by
  show (if ("_low" : Str) = "_high" then _ else _ :: (if ("_high" : Str) = "_high" then _ else _)) = _
  rw [if_neg klh, if_pos rfl]; rfl
theorem get_lo (r : Int × Int) : (flds r).lookup ("_low" : Str) = some (.int r.1) := by
  have e : ((("_low" : Str)) == ("_low" : Str)) = true := by decide +kernel
  simp only [flds, List.lookup, e]
theorem get_hi (r : Int × Int) : (flds r).lookup ("_high" : Str) = some (.int r.2) := by
  have e1 : ((("_high" : Str)) == ("_low" : Str)) = false := by decide +kernel
  have e2 : ((("_high" : Str)) == ("_high" : Str)) = true := by decide +kernel
  simp only [flds, List.lookup, e1, e2]
/-- a range stands at p -/
def RAt (C : Addr) (H : Hp) (p : Addr) (r : Int × Int) : Prop := ∃ dx, H p = some (.ins C dx (flds r))
def oV : Option Int → V
  | none => .non
  | some i => .int i
/-- the pair that __init__ keeps -/
def mkR (f : Int) : Option Int → Int × Int
  | none => (f, B)
  | some l => if l < f then (-B, -B - 1) else (f, l)
def Bnd (i : Int) : Prop := -B < i ∧ i < B
def BndO : Option Int → Prop
  | none => True
  | some i => Bnd i
/-- what the walk asks of the text -/
structure Txt (K : PySem.W.Frag) (mg : Str → Option Value) (C : Addr) : Prop where
  cl : Cls K C
  nl : NoAttr K C "_low"
  nh : NoAttr K C "_high"
  sf : PySem.W.selfFirst K C = true
  cRange : mg "Range" = some (.ref C)
  gBOUND : ∃ u, mg "BOUND" = some u ∧ L2.RelV (.int B) u
  b_isinstance : mg "isinstance" = none
  b_int : mg "int" = none
  b_bool : mg "bool" = none
  b_str : mg "str" = none
  b_len : mg "len" = none
  b_max : mg "max" = none
  b_min : mg "min" = none
  b_range : mg "range" = none
  b_repr : mg "repr" = none
  b_sorted : mg "sorted" = none
  b_set : mg "set" = none
  cls_ : PySem.W.findIn K (.ref C) "__class__" = some (some (.builtin "object.__class__"))
  cgt : PySem.W.specialIn K (.builtin "object.__class__") "__get__" = some (some (.builtin "getset_descriptor.__get__"))
  ctk : PySem.W.takesIn K (.builtin "object.__class__") = some true
  mro : PySem.W.mroIn K C (.type "object") = some true
  kCC : PySem.W.kitOne K (.ref C) (.ref C) = some true
  kN : PySem.W.kitOne K (.type "NoneType") (.ref C) = some false
  kB : PySem.W.kitOne K (.type "bool") (.ref C) = some false
  kI : PySem.W.kitOne K (.type "int") (.ref C) = some false
  kS : PySem.W.kitOne K (.type "str") (.ref C) = some false
  kL : PySem.W.kitOne K (.type "list") (.ref C) = some false
  kT : PySem.W.kitOne K (.type "tuple") (.ref C) = some false
  kD : PySem.W.kitOne K (.type "dict") (.ref C) = some false
  kCi : PySem.W.kitOne K (.ref C) (.type "int") = some false
  oCC : PySem.W.notFirst K C (.ref C) = true
section
variable {K : PySem.W.Frag} {mg : Str → Option Value} {C : Addr}
theorem Txt.ty (T : Txt K mg C) {H : Hp} {p : Addr} {r : Int × Int} (h : RAt C H p r) : TyX K H (.ref p) (.ref C) :=
  let ⟨_, e⟩ := h
  .base (.ins e T.cl T.cls_ T.cgt T.ctk T.mro)
end
/-! ### promises -/
abbrev kit (K : PySem.W.Frag) (t : Value) (n : String) (b : Bool) : Prop := PySem.W.kitOne K t (.type n) = some b
def spIsInt (K : PySem.W.Frag) : Sp := fun vs H Q _ => ∃ x t b1 b2, vs = [x] ∧ TyX K H x t ∧ kit K t "int" b1 ∧ (b1 = true → kit K t "bool" b2) ∧ Q (.bl (b1 && !b2)) H
theorem kii {K : PySem.W.Frag} : kit K (.type "int") "int" true := kit_ty (by decide +kernel)
theorem kib {K : PySem.W.Frag} : kit K (.type "int") "bool" false := kit_ty (by decide +kernel)
/-- of an integer, or of a value that is none -/
def spBnd (K : PySem.W.Frag) : Sp := fun vs H Q _ => (∃ i, vs = [.int i] ∧ Q (.bl (decide (-B < i) && decide (i < B))) H) ∨
  (∃ x t b1 b2, vs = [x] ∧ TyX K H x t ∧ kit K t "int" b1 ∧ (b1 = true → kit K t "bool" b2) ∧ (b1 && !b2) = false ∧ Q (.bl false) H)
def spInit (C : Addr) : Sp := fun vs H Q _ => ∃ x dx f l, vs = [.ref x, .int f, oV l] ∧ H x = some (.ins C dx []) ∧ Bnd f ∧ BndO l ∧
  ∀ H', RAt C H' x (mkR f l) → (∀ b o, H b = some o → b ≠ x → H' b = some o) → Q .non H'
section
variable {P : Program} {w : World} {K : PySem.W.Frag} {mg : Str → Option Value} {base : Heap} {C : Addr}
abbrev s_is_integer : Stmt := top 15
theorem sc_is_integer : FnScope ["value"] ["value"] (defScope s_is_integer) := ⟨rfl, rfl, rfl, by decide +kernel, rfl, by decide +kernel, by decide +kernel⟩
theorem ok_is_integer (D : DefK K mg "is_integer" s_is_integer) (T : Txt K mg C) : Cal P w K mg base CX0 1 "is_integer" (spIsInt K) := by
  refine D.cal sc_is_integer (fun _ _ _ _ _ _ us hl => match us, hl with | [_], _ => rfl) (fun vs H Q E h => ?_) fun f cdv A outer s H vs Q E hr h => ?_
  · obtain ⟨x, t, b1, b2, rfl, _⟩ := h; rfl
  · obtain ⟨x, t, b1, b2, rfl, ty, k1, k2, q⟩ := h
    refine ⟨_, (pss_one (ps_ret (pe_and (pe_callB call_isi (by rfl) T.b_isinstance (by decide +kernel) (pa_cons (pv 0) (pa_cons (pe_ty (n := "int") (by rfl) T.b_int (by decide +kernel)) pa_nil))) (pe_one (pe_not (pe_callB call_isi (by rfl) T.b_isinstance (by decide +kernel) (pa_cons (pv 0) (pa_cons (pe_ty (n := "bool") (by rfl) T.b_bool (by decide +kernel)) pa_nil)))))))), ?_⟩
    refine ⟨_, rfl, x, .ty "int", t, _, b1, rfl, .ty "int", ty, k1, b1, rfl, ?_⟩
    cases b1 with
    | false => exact iteF q
    | true => exact iteT ⟨_, rfl, x, .ty "bool", t, _, b2, rfl, .ty "bool", ty, k2 rfl, b2, rfl, q⟩
abbrev s_is_bounded : Stmt := top 16
theorem sc_is_bounded : FnScope ["value"] ["value"] (defScope s_is_bounded) := ⟨rfl, rfl, rfl, by decide +kernel, rfl, by decide +kernel, by decide +kernel⟩
theorem ok_is_bounded (D : DefK K mg "is_bounded" s_is_bounded) (T : Txt K mg C) (G_is_integer : Cal P w K mg base CX0 1 "is_integer" (spIsInt K)) : Cal P w K mg base CX0 2 "is_bounded" (spBnd K) := by
  refine D.cal sc_is_bounded (fun _ _ _ _ _ _ us hl => match us, hl with | [_], _ => rfl) (fun vs H Q E h => ?_) fun f cdv A outer s H vs Q E hr h => ?_
  · rcases h with ⟨i, rfl, _⟩ | ⟨x, t, b1, b2, rfl, _⟩ <;> rfl
  · refine ⟨_, (pss_one (ps_ret (pe_and (pe_c G_is_integer hr (by decide) rfl (pa_cons (pv 0) pa_nil)) (pe_one (pe_chain op_lt op_lt (pe_un un_neg (pe_gc rfl T.gBOUND)) (pv 0) (pe_gc rfl T.gBOUND)))))), ?_⟩
    rcases h with ⟨i, rfl, q⟩ | ⟨x, t, b1, b2, rfl, ty, k1, k2, e, q⟩
    · refine ⟨_, rfl, .int i, _, true, false, rfl, .base (.int i), kii, fun _ => kib, true, rfl, iteT ?_⟩
      refine ⟨B, rfl, _, rfl, -B, i, rfl, rfl, _, rfl, ?_⟩
      by_cases c : -B < i
      · rw [decide_eq_true c]
        refine iteT ?_
        rw [decide_eq_true c] at q
        exact ⟨i, B, rfl, rfl, q⟩
      · rw [decide_eq_false c]
        refine iteF ?_
        rw [decide_eq_false c] at q
        exact q
    · refine ⟨_, rfl, x, t, b1, b2, rfl, ty, k1, k2, _, rfl, ?_⟩
      rw [e]
      exact iteF q
abbrev s_Range_init : Stmt := inClass (top 48) 0
theorem sc_Range_init : FnScope ["self", "first", "last"] ["self", "first", "last"] (defScope s_Range_init) := ⟨rfl, rfl, rfl, by decide +kernel, rfl, by decide +kernel, by decide +kernel⟩
theorem ok_init (D : MetK K C "__init__" "Range.__init__" s_Range_init) (T : Txt K mg C) (G_is_bounded : Cal P w K mg base CX0 2 "is_bounded" (spBnd K)) : Met P w K mg base CX0 3 C "__init__" (spInit C) := by
  refine D.met sc_Range_init (fun _ _ _ _ _ _ us hl => match us, hl with | [_, _, _], _ => rfl) (fun vs H Q E h => ?_) fun f cdv A outer s H vs Q E hr h => ?_
  · obtain ⟨x, dx, f, l, rfl, _⟩ := h; rfl
  · obtain ⟨x, dx, f, l, rfl, hx, bf, bl, q⟩ := h
    refine ⟨_, (pss_cons (ps_if (pt_not (pt_val (pe_c G_is_bounded hr (by decide) rfl (pa_cons (pv 1) pa_nil)))) (pss_one ps_never) pss_nil)
      (pss_cons (ps_if (PW.pt (pw_and (pt_cmpR op_notN (pv 2) pe_non (nomark _)) (pw_and1 (pt_not (pt_val (pe_c G_is_bounded hr (by decide) rfl (pa_cons (pv 2) pa_nil))))))) (pss_one ps_never) pss_nil)
      (pss_cons (ps_fld (pv 0) (pv 1) rfl)
      (pss_cons (ps_fld (pv 0) (pe_ifExp (pt_cmpR op_isN (pv 2) pe_non (nomark _)) (pe_gc rfl T.gBOUND) (pv 2)) rfl)
      (pss_one (ps_if (pt_cmpR op_lt (pe_fld (pv 0) rfl) (pe_fld (pv 0) rfl) (nomark _)) (pss_cons (ps_fld (pv 0) (pe_un un_neg (pe_gc rfl T.gBOUND)) rfl)
      (pss_one (ps_fld (pv 0) (pe_op op_sub (pe_un un_neg (pe_gc rfl T.gBOUND)) pe_int) rfl))) pss_nil)))))), ?_⟩
    have bB : (decide (-B < f) && decide (f < B)) = true := by rw [decide_eq_true bf.1, decide_eq_true bf.2]; rfl
    refine ⟨_, rfl, .inl ⟨f, rfl, _, rfl, ?_⟩⟩
    rw [bB]
    refine iteF ?_
    -- last is none, or a moment too
    have go : ∀ (D : Ends) (sg : L2.St), (decide (oV l = V.non) = true ∨ ∃ i, l = some i) → True := fun _ _ _ => trivial
    have npos : (0 : Nat) < 1000 := by decide
    have one : (1 : Nat) < 1000 := by decide
    have two : (2 : Nat) < 1000 := by decide
    cases l with
    | none =>
      refine ⟨_, rfl, rfl, _, rfl, iteF ?_⟩
      refine ⟨_, rfl, _, rfl, x, C, dx, [], rfl, hx, T.cl, T.nl, npos, ?_⟩
      refine ⟨_, rfl, rfl, _, rfl, iteT ⟨_, rfl, x, C, dx, _, rfl, upd_same, T.cl, T.nh, one, ?_⟩⟩
      rw [upd_upd, show putF "_low" (V.int f) [] = [(("_low" : Str), V.int f)] from rfl, put_hi]
      refine ⟨_, rfl, x, C, dx, _, _, rfl, upd_same, T.cl, T.nh, get_hi _, _, rfl, x, C, dx, _, _, rfl, upd_same, T.cl, T.nl, get_lo _, _, _, rfl, rfl, _, rfl, ?_⟩
      have nl : ¬ B < f := by have := bf.2; omega
      rw [decide_eq_false nl]
      refine iteF (q _ ⟨dx, upd_same⟩ fun b o e n => ?_)
      rw [upd_ne n]; exact e
    | some i =>
      have bi : (decide (-B < i) && decide (i < B)) = true := by rw [decide_eq_true bl.1, decide_eq_true bl.2]; rfl
      refine ⟨_, rfl, rfl, _, rfl, iteT ⟨_, rfl, .inl ⟨i, rfl, _, rfl, ?_⟩⟩⟩
      rw [bi]
      refine iteF ?_
      refine ⟨_, rfl, _, rfl, x, C, dx, [], rfl, hx, T.cl, T.nl, npos, ?_⟩
      refine ⟨_, rfl, rfl, _, rfl, iteF ⟨_, rfl, _, rfl, x, C, dx, _, rfl, upd_same, T.cl, T.nh, one, ?_⟩⟩
      rw [upd_upd, show putF "_low" (V.int f) [] = [(("_low" : Str), V.int f)] from rfl, show oV (some i) = V.int i from rfl, put_hi]
      refine ⟨_, rfl, x, C, dx, _, _, rfl, upd_same, T.cl, T.nh, get_hi _, _, rfl, x, C, dx, _, _, rfl, upd_same, T.cl, T.nl, get_lo _, _, _, rfl, rfl, _, rfl, ?_⟩
      by_cases c : i < f
      · rw [decide_eq_true c]
        refine iteT ⟨_, rfl, _, rfl, x, C, dx, _, rfl, upd_same, T.cl, T.nl, two, ?_⟩
        rw [put_lo2, upd_upd]
        refine ⟨_, rfl, _, _, rfl, rfl, _, rfl, x, C, dx, _, rfl, upd_same, T.cl, T.nh, two, ?_⟩
        rw [put_hi2, upd_upd]
        refine q _ ⟨dx, ?_⟩ fun b o e n => ?_
        · rw [upd_same]
          show some (HO.ins C dx (flds (-B, -B - 1))) = some (HO.ins C dx (flds (if i < f then (-B, -B - 1) else (f, i))))
          rw [if_pos c]
        · rw [upd_ne n]; exact e
      · rw [decide_eq_false c]
        refine iteF (q _ ⟨dx, ?_⟩ fun b o e n => ?_)
        · rw [upd_same]
          show some (HO.ins C dx (flds (f, i))) = some (HO.ins C dx (flds (if i < f then (-B, -B - 1) else (f, i))))
          rw [if_neg c]
        · rw [upd_ne n]; exact e
end
/-! ### ==, is_endless, size -/
/-! ### covers, in, is_before -/
end K54R
namespace K54R
open PySem PySem.Spec PyProof.Rows L2 Jg
local macro_rules | `(tactic| walk_at "rd1") => `(tactic| (first
  | refine ⟨_, rfl, ?_⟩
  | refine ⟨_, _, rfl, rfl, ?_⟩
  | refine ⟨_, _, rfl, ?_⟩
  | refine ⟨rfl, ?_⟩
  | (refine ⟨show (0 : Int) < _ by omega, ?_⟩)
  | (refine ⟨Or.inl ⟨by omega, by omega⟩, ?_⟩)
  | (refine ⟨Or.inr ⟨by omega, by omega⟩, ?_⟩)
  | (refine ⟨(⟨by decide, by decide, by decide⟩ : CPow _ _), ?_⟩)
  | refine Or.inl ⟨_, rfl, ?_⟩
  | refine Or.inr ⟨_, rfl, ?_⟩
  | fail "rd"))
local macro_rules | `(tactic| walk_at "rd") => `(tactic| repeat' walk_at "rd1")
/-! ### new ranges: empty, _between, and, joined -/
theorem ne_dec {x y : Int} : decide (V.int x = V.int y) = decide (x = y) := by
  by_cases c : x = y
  · rw [c, decide_eq_true rfl, decide_eq_true rfl]
  · rw [decide_eq_false c, decide_eq_false fun z => c (V.int.inj z)]
/-- a range as __init__ leaves it -/
def RngOk (r : Int × Int) : Prop := r = (-B, -B - 1) ∨ (Bnd r.1 ∧ r.1 ≤ r.2 ∧ r.2 ≤ B)
/-- hands back a range that was not there before -/
def NewR (C : Addr) (H : Hp) (r : Int × Int) (Q : VK) : Prop := ∀ x H', H x = none → Same H H' → RAt C H' x r → Q (.ref x) H'
def spEmpty (C : Addr) : Sp := fun vs H Q _ => vs = [.ref C] ∧ NewR C H (-B, -B - 1) Q
def btw (lo hi : Int) : Int × Int := if hi < lo then (-B, -B - 1) else (lo, hi)
def spBtw (C : Addr) : Sp := fun vs H Q _ => ∃ lo hi, vs = [.int lo, .int hi] ∧ (lo ≤ hi → Bnd lo ∧ -B < hi ∧ hi ≤ B) ∧ NewR C H (btw lo hi) Q
def spMin : Sp := fun vs H Q _ => ∃ a b, vs = [.int a, .int b] ∧ Q (.int (if a < b then a else b)) H
def spMax : Sp := fun vs H Q _ => ∃ a b, vs = [.int a, .int b] ∧ Q (.int (if b < a then a else b)) H
def andR (r o : Int × Int) : Int × Int := btw (if o.1 < r.1 then r.1 else o.1) (if r.2 < o.2 then r.2 else o.2)
def spAnd (C : Addr) : Sp := fun vs H Q _ => ∃ p q r o, vs = [.ref p, .ref q] ∧ RAt C H p r ∧ RAt C H q o ∧ RngOk r ∧ RngOk o ∧ NewR C H (andR r o) Q
theorem rng_mk {f : Int} {l : Option Int} (bf : Bnd f) (bl : BndO l) : RngOk (mkR f l) := by
  have hB := B_eq
  cases l with
  | none => exact .inr ⟨bf, by have := bf.2; show f ≤ B; omega, Int.le_refl _⟩
  | some i =>
    by_cases c : i < f
    · exact .inl (if_pos c)
    · have e : mkR f (some i) = (f, i) := if_neg c
      rw [e]
      exact .inr ⟨bf, by show f ≤ i; omega, by have := bl.2; show i ≤ B; omega⟩
section
variable {P : Program} {w : World} {K : PySem.W.Frag} {mg : Str → Option Value} {base : Heap} {C : Addr} {mc : Value}
abbrev s_Range_empty : Stmt := inClass (top 48) 1
theorem sc_Range_empty : FnScope ["cls"] ["cls"] (defScope s_Range_empty) := ⟨rfl, rfl, rfl, by decide +kernel, rfl, by decide +kernel, by decide +kernel⟩
theorem ok_empty (D : CmtK K C mc "empty" "Range.empty" s_Range_empty) (M_Range : Mak P w K mg base CX0 3 "Range" C (spInit C)) : Cmt P w K mg base CX0 5 C mc "empty" (spEmpty C) := by
  refine D.cmt sc_Range_empty (fun _ _ _ _ _ _ us hl => match us, hl with | [_], _ => rfl) (fun vs H Q E h => ?_) fun f cdv A outer s H vs Q E hr h => ?_
  · obtain ⟨rfl, _⟩ := h; rfl
  · obtain ⟨rfl, k⟩ := h
    refine ⟨_, (pss_one (ps_ret (pe_mkL (i := 0) M_Range hr (by decide) (by rfl) (Or.inl rfl) (pa_cons pe_int (pa_cons (pe_un un_neg pe_int) pa_nil))))), ?_⟩
    refine ⟨rfl, _, rfl, fun x dx nx ndx nex => ⟨x, dx, 0, some (-1), rfl, upd_same, ⟨by decide, by decide⟩, ⟨by decide, by decide⟩, fun H1 R kp => ⟨rfl, ?_⟩⟩⟩
    exact k x H1 nx (Same.made nx ndx kp) R
abbrev s_between : Stmt := top 47
theorem sc_between : FnScope ["low", "high"] ["low", "high"] (defScope s_between) := ⟨rfl, rfl, rfl, by decide +kernel, rfl, by decide +kernel, by decide +kernel⟩
theorem ok_between (D : DefK K mg "_between" s_between) (T : Txt K mg C) (M_Range : Mak P w K mg base CX0 3 "Range" C (spInit C)) (G_empty : Cmt P w K mg base CX0 5 C mc "empty" (spEmpty C)) : Cal P w K mg base CX0 6 "_between" (spBtw C) := by
  refine D.cal sc_between (fun _ _ _ _ _ _ us hl => match us, hl with | [_, _], _ => rfl) (fun vs H Q E h => ?_) fun f cdv A outer s H vs Q E hr h => ?_
  · obtain ⟨lo, hi, rfl, _⟩ := h; rfl
  · obtain ⟨lo, hi, rfl, bd, k⟩ := h
    refine ⟨_, (pss_cons (ps_if (pt_cmpR op_gt (pv 0) (pv 1) (nomark _)) (pss_one (ps_ret (pe_cm0 G_empty hr (by decide) (pe_glob (v := .ref C) rfl T.cRange rfl)))) pss_nil)
      (pss_one (ps_ret (pe_mk M_Range hr (by decide) rfl (pa_cons (pv 0) (pa_cons (pe_ifExp (pt_cmpR op_eq (pv 1) (pe_gc rfl T.gBOUND) (nomark _)) pe_non (pv 1)) pa_nil)))))), ?_⟩
    walk_at "rd"
    by_cases c : hi < lo
    · have e : btw lo hi = (-B, -B - 1) := if_pos c
      rw [e] at k
      refine iteTe (decide_eq_true c) ?_
      exact ⟨rfl, rfl, k⟩
    · have e : btw lo hi = (lo, hi) := if_neg c
      rw [e] at k
      obtain ⟨b1, b2, b3⟩ := bd (by omega)
      refine iteFe (decide_eq_false c) ?_
      walk_at "rd"
      rw [ne_dec]
      by_cases c2 : hi = B
      · refine iteTe (decide_eq_true c2) fun x dx nx ndx nex => ⟨x, dx, lo, none, rfl, upd_same, b1, trivial, fun H1 R kp => ⟨rfl, ?_⟩⟩
        refine k x H1 nx (Same.made nx ndx kp) ?_
        rw [c2]
        exact R
      · refine iteFe (decide_eq_false c2) ⟨_, rfl, fun x dx nx ndx nex => ⟨x, dx, lo, some hi, rfl, upd_same, b1, ⟨b2, by omega⟩, fun H1 R kp => ⟨rfl, ?_⟩⟩⟩
        refine k x H1 nx (Same.made nx ndx kp) ?_
        have e2 : mkR lo (some hi) = (lo, hi) := if_neg c
        rw [e2] at R
        exact R
abbrev s_lesser : Stmt := top 44
theorem sc_lesser : FnScope ["one", "two"] ["one", "two"] (defScope s_lesser) := ⟨rfl, rfl, rfl, by decide +kernel, rfl, by decide +kernel, by decide +kernel⟩
theorem ok_lesser (D : DefK K mg "_lesser" s_lesser) : Cal P w K mg base CX0 1 "_lesser" spMin := by
  refine D.cal sc_lesser (fun _ _ _ _ _ _ us hl => match us, hl with | [_, _], _ => rfl) (fun vs H Q E h => ?_) fun f cdv A outer s H vs Q E hr h => ?_
  · obtain ⟨a, b, rfl, _⟩ := h; rfl
  · obtain ⟨a, b, rfl, k⟩ := h
    refine ⟨_, (pss_one (ps_ret (pe_ifExp (pt_cmpR op_lt (pv 0) (pv 1) (nomark _)) (pv 0) (pv 1)))), ?_⟩
    walk_at "rd"
    by_cases c : a < b
    · rw [if_pos c] at k
      exact iteTe (decide_eq_true c) ⟨_, rfl, k⟩
    · rw [if_neg c] at k
      exact iteFe (decide_eq_false c) ⟨_, rfl, k⟩
abbrev s_greater : Stmt := top 45
theorem sc_greater : FnScope ["one", "two"] ["one", "two"] (defScope s_greater) := ⟨rfl, rfl, rfl, by decide +kernel, rfl, by decide +kernel, by decide +kernel⟩
theorem ok_greater (D : DefK K mg "_greater" s_greater) : Cal P w K mg base CX0 1 "_greater" spMax := by
  refine D.cal sc_greater (fun _ _ _ _ _ _ us hl => match us, hl with | [_, _], _ => rfl) (fun vs H Q E h => ?_) fun f cdv A outer s H vs Q E hr h => ?_
  · obtain ⟨a, b, rfl, _⟩ := h; rfl
  · obtain ⟨a, b, rfl, k⟩ := h
    refine ⟨_, (pss_one (ps_ret (pe_ifExp (pt_cmpR op_gt (pv 0) (pv 1) (nomark _)) (pv 0) (pv 1)))), ?_⟩
    walk_at "rd"
    by_cases c : b < a
    · rw [if_pos c] at k
      exact iteTe (decide_eq_true c) ⟨_, rfl, k⟩
    · rw [if_neg c] at k
      exact iteFe (decide_eq_false c) ⟨_, rfl, k⟩
end
/-! ### what two ranges have in common -/
section
variable {P : Program} {w : World} {K : PySem.W.Frag} {mg : Str → Option Value} {base : Heap} {C : Addr}
abbrev s_Range_and : Stmt := inClass (top 48) 14
theorem sc_Range_and : FnScope ["self", "other"] ["self", "other"] (defScope s_Range_and) := ⟨rfl, rfl, rfl, by decide +kernel, rfl, by decide +kernel, by decide +kernel⟩
theorem ok_and (D : MetK K C "__and__" "Range.__and__" s_Range_and) (T : Txt K mg C) (G_between : Cal P w K mg base CX0 6 "_between" (spBtw C)) (G_lesser : Cal P w K mg base CX0 1 "_lesser" spMin) (G_greater : Cal P w K mg base CX0 1 "_greater" spMax) : Met P w K mg base CX0 7 C "__and__" (spAnd C) := by
  refine D.met sc_Range_and (fun _ _ _ _ _ _ us hl => match us, hl with | [_, _], _ => rfl) (fun vs H Q E h => ?_) fun f cdv A outer s H vs Q E hr h => ?_
  · obtain ⟨p, q, r, o, rfl, _⟩ := h; rfl
  · obtain ⟨p, q, r, o, rfl, ⟨dx, hp⟩, ⟨dy, hq⟩, r1, r2, k⟩ := h
    refine ⟨_, (pss_one (ps_ret (pe_c G_between hr (by decide) rfl (pa_cons (pe_c G_greater hr (by decide) rfl (pa_cons (pe_fld (pv 0) rfl) (pa_cons (pe_fld (pv 1) rfl) pa_nil))) (pa_cons (pe_c G_lesser hr (by decide) rfl (pa_cons (pe_fld (pv 0) rfl) (pa_cons (pe_fld (pv 1) rfl) pa_nil))) pa_nil))))), ?_⟩
    refine ⟨_, rfl, p, C, dx, _, _, rfl, hp, T.cl, T.nl, get_lo _, _, rfl, q, C, dy, _, _, rfl, hq, T.cl, T.nl, get_lo _, _, _, rfl, ?_⟩
    refine ⟨_, rfl, p, C, dx, _, _, rfl, hp, T.cl, T.nh, get_hi _, _, rfl, q, C, dy, _, _, rfl, hq, T.cl, T.nh, get_hi _, _, _, rfl, ?_⟩
    refine ⟨_, _, rfl, fun hle => ?_, k⟩
    have hB := B_eq
    rcases r1 with rfl | ⟨⟨x1, x2⟩, x3, x4⟩ <;> rcases r2 with rfl | ⟨⟨y1, y2⟩, y3, y4⟩
    · split at hle <;> split at hle <;> omega
    · split at hle <;> split at hle <;> omega
    · split at hle <;> split at hle <;> omega
    · refine ⟨?_, ?_, ?_⟩
      · split
        · exact ⟨x1, x2⟩
        · exact ⟨y1, y2⟩
      · split at hle <;> split at hle <;> (split <;> omega)
      · split <;> omega
end
end K54R
namespace K54R
open PySem PySem.Spec PyProof.Rows L2 Jg
local macro_rules | `(tactic| walk_at "rd1") => `(tactic| (first
  | refine ⟨_, rfl, ?_⟩
  | refine ⟨_, _, rfl, rfl, ?_⟩
  | refine ⟨_, _, rfl, ?_⟩
  | refine ⟨rfl, ?_⟩
  | (refine ⟨show (0 : Int) < _ by omega, ?_⟩)
  | (refine ⟨Or.inl ⟨by omega, by omega⟩, ?_⟩)
  | (refine ⟨Or.inr ⟨by omega, by omega⟩, ?_⟩)
  | (refine ⟨(⟨by decide, by decide, by decide⟩ : CPow _ _), ?_⟩)
  | refine Or.inl ⟨_, rfl, ?_⟩
  | refine Or.inr ⟨_, rfl, ?_⟩
  | fail "rd"))
local macro_rules | `(tactic| walk_at "rd") => `(tactic| repeat' walk_at "rd1")
/-! ### first, last, truth -/
def spBoo (C : Addr) : Sp := fun vs H Q _ => ∃ p r, vs = [.ref p] ∧ RAt C H p r ∧ Q (.bl (decide (r.1 ≤ r.2))) H
section
variable {P : Program} {w : World} {K : PySem.W.Frag} {mg : Str → Option Value} {base : Heap} {C : Addr}
abbrev s_Range_bool : Stmt := inClass (top 48) 8
theorem sc_Range_bool : FnScope ["self"] ["self"] (defScope s_Range_bool) := ⟨rfl, rfl, rfl, by decide +kernel, rfl, by decide +kernel, by decide +kernel⟩
theorem ok_bool (D : MetK K C "__bool__" "Range.__bool__" s_Range_bool) (T : Txt K mg C) : Met P w K mg base CX0 1 C "__bool__" (spBoo C) := by
  refine D.met sc_Range_bool (fun _ _ _ _ _ _ us hl => match us, hl with | [_], _ => rfl) (fun vs H Q E h => ?_) fun f cdv A outer s H vs Q E hr h => ?_
  · obtain ⟨p, r, rfl, _⟩ := h; rfl
  · obtain ⟨p, r, rfl, ⟨dx, hp⟩, k⟩ := h
    refine ⟨_, (pss_one (ps_ret (pe_callTy call_bool1 (by rfl) T.b_bool (by decide +kernel) (pa_cons (pe_cmpR op_le (pe_fld (pv 0) rfl) (pe_fld (pv 0) rfl) (nomark _)) pa_nil)))), ?_⟩
    refine ⟨_, rfl, p, C, dx, _, _, rfl, hp, T.cl, T.nl, get_lo _, _, rfl, p, C, dx, _, _, rfl, hp, T.cl, T.nh, get_hi _, _, _, rfl, rfl, .inr ⟨_, rfl, k⟩⟩
end
end K54R
/-! lambdas handed to a def of the law, where repr may be asked: the maker's table of code objects -/
namespace Jg
open PySem PySem.Spec PyProof.Rows L2
/-- a def of the module whose code object stands at c -/
structure DefC (K : PySem.W.Frag) (mg : Str → Option Value) (x : Str) (st : Stmt) (c : Addr) : Prop where
  ex : ∃ (f : Addr) (oc : Value) (od : Option Addr) (kV doc pm : Value) (an : Option Addr) (ct : Value) (osl : Array (Option Value)), K.lookup f = some ⟨oc, od, .func (PySem.W.fnOf x x (defArgs st) (defBody st) (defScope st) .none kV doc pm an (.ref c) ct), osl⟩ ∧ PySem.W.codeIn K (.ref c) x = true ∧ PySem.W.keepIn K (.ref f) = true ∧ mg x = some (.ref f)
theorem DefC.of {K : PySem.W.Frag} {h : Heap} {mg : Str → Option Value} {x : Str} {st : Stmt} {c f : Addr} {oc : Value} {od an : Option Addr} {osl : Array (Option Value)} {kV doc pm ct : Value} (X : K.In h) (G : h.Ns mainGlobals mg)
    (a : PySem.W.nsIn K mainGlobals x = some (some (.ref f))) (l : K.lookup f = some ⟨oc, od, .func (PySem.W.fnOf x x (defArgs st) (defBody st) (defScope st) .none kV doc pm an (.ref c) ct), osl⟩)
    (e : PySem.W.codeIn K (.ref c) x = true) (k : PySem.W.keepIn K (.ref f) = true) : DefC K mg x st c := ⟨f, oc, od, kV, doc, pm, an, ct, osl, l, e, k, PySem.W.mg_of X G a⟩
section
variable {P : Program} {w : World} {K : PySem.W.Frag} {mg : Str → Option Value} {base : Heap} {k : Nat} {x : Str} {st : Stmt} {c : Addr} {N ps : List Str} {sp : Sp}
/-- .. walked where no repr is under way -/
theorem DefC.calG (D : DefC K mg x st c) (S : FnScope N ps (defScope st)) (b : BindOk x x st ps) (len : ∀ vs H Q E, sp vs H Q E → vs.length = ps.length)
    (hb : ∀ (f : Addr) (A : Around) (outer : List Env) (s : Shared) (H : Hp) (vs : List V) (Q : VK) (E : XK), (cxOf CX0 P w K mg base N x (defScope st) f (.ref c) A outer s H E).nox.A.guards = some [] → Room k (A.deeper (envOfC x (defScope st) s.heap.objs.size f (.ref c))) → sp vs H Q E →
      ∃ t, PSs (cxOf CX0 P w K mg base N x (defScope st) f (.ref c) A outer s H E).nox (defBody st) t ∧ t { nx := fun _ H' => Q .non H', rt := Q } (start N vs) H) : CalG P w K mg base CX0 (k + 1) x sp := by
  obtain ⟨f, oc, od, kV, doc, pm, an, ct, osl, lk, hcd, kp, hm⟩ := D.ex
  refine ⟨f, _, ps, ⟨len, fun A g outer s H args us vs Q E hr e0 hb2 r hsp => ?_⟩, hm, kp, .all (b kV doc pm an (.ref c) ct)⟩
  have inHeap : K.In s.heap := e0.mod.kin.keeps fun b o e => (e0.bs b o e).1
  have kinds : ∀ y ∈ ps.zip us, (defScope st).names.lookup y.1 = some .local ∨ ((defScope st).names.lookup y.1 = some .cell ∧ ((cellsFrom (s.heap.objs.size + 1) (defScope st).names []).lookup y.1).isSome = true) := fun y hy =>
    (S.par y.1 (List.of_mem_zip hy).1).imp id fun q => ⟨q, PySem.W.cellsFrom_some _ _ _ (.inl q)⟩
  refine codeAny_call_function hr.depth (inHeap _ _ lk) rfl S.co S.gen rfl (PySem.W.codeRec_of inHeap hcd) (hb2 _ _ _ _ ?_)
  refine wpAny_newFunctionEnv_cells S.kind kinds fun env he s1 y => ?_
  subst he
  obtain ⟨t, ht, hq⟩ := hb f A outer s H vs Q E (guards_deeper g) (hr.deeper _) hsp
  have I := inv_start (CX := CX0) (E := E) S hr.hd e0 (len _ _ _ _ hsp) r y
  refine ⟨(e0.mod.nolimit.keeps fun b o e => (e0.bs b o e).1).keeps y.toInCall.keep, codeAny_func (wpAny_mono (ht.nox.run [] s1 (start N vs) H _ I hq) (fun fl s' hs => ?_) fun _ _ hs => hs)⟩
  match fl, hs with
  | .ret u, ⟨v, _, H', J, rv, q⟩ => exact ⟨v, H', J.os, J.bare, J.base, J.hok, rv, q⟩
  | .next, ⟨_, H', J, q⟩ => exact ⟨.non, H', J.os, J.bare, J.base, J.hok, rfl, q⟩
  | .brk, ⟨_, _, _, q⟩ => exact False.elim q
  | .cont, ⟨_, _, _, q⟩ => exact False.elim q
end
/-! ### the end, with the tables of some code objects, over a def that may ask for a repr -/
end Jg
namespace K54
open PySem PySem.Spec PyProof.Rows L2 Jg
local macro_rules | `(tactic| walk_at "rd1") => `(tactic| (first
  | refine ⟨_, rfl, ?_⟩
  | refine ⟨_, _, rfl, rfl, ?_⟩
  | refine ⟨_, _, rfl, ?_⟩
  | refine ⟨rfl, ?_⟩
  | (refine ⟨show (0 : Int) < _ by omega, ?_⟩)
  | (refine ⟨Or.inl ⟨by omega, by omega⟩, ?_⟩)
  | (refine ⟨Or.inr ⟨by omega, by omega⟩, ?_⟩)
  | (refine ⟨(⟨by decide, by decide, by decide⟩ : CPow _ _), ?_⟩)
  | refine Or.inl ⟨_, rfl, ?_⟩
  | refine Or.inr ⟨_, rfl, ?_⟩
  | fail "rd"))
local macro_rules | `(tactic| walk_at "rd") => `(tactic| repeat' walk_at "rd1")
def top (i : Nat) : Stmt := PySem.Challenge.pw_gaplesskeys_k54_wrong_taking_back.main.body.getD i (.Pass ⟨0, 0, 0, 0⟩)
theorem same_new {H : Hp} {p : Addr} {o : HO} (h : H p = none) : Same H (upd H p o) := fun b u e => by rw [upd_ne (ne_of_none e h)]; exact e
theorem same_new' {H H1 : Hp} {p : Addr} {o : HO} (s : Same H H1) (h : H1 p = none) : Same H (upd H1 p o) := s.trans (same_new h)
theorem same_mut {H H1 : Hp} {p : Addr} {o : HO} (s : Same H H1) (h : H p = none) : Same H (upd H1 p o) := fun b u e => by rw [upd_ne (ne_of_none e h)]; exact s b u e
def LM : Int := 10 ^ 40
/-- the names that plans ask for -/
structure TxP (K : PySem.W.Frag) (mg : Str → Option Value) : Prop where
  g_LAST_MOMENT : ∃ u, mg "_LAST_MOMENT" = some u ∧ L2.RelV (.int LM) u
  gMOST_EDITIONS : ∃ u, mg "MOST_EDITIONS" = some u ∧ L2.RelV (.int 7) u
  b_isinstance : mg "isinstance" = none
  b_tuple : mg "tuple" = none
  b_list : mg "list" = none
  b_len : mg "len" = none
  b_enumerate : mg "enumerate" = none
  b_range : mg "range" = none
  b_zip : mg "zip" = none
  b_max : mg "max" = none
  b_min : mg "min" = none
  b_repr : mg "repr" = none
/-- the class of plans -/
structure PTx (K : PySem.W.Frag) (mg : Str → Option Value) (PC : Addr) : Prop where
  cl : Cls K PC
  cPlan : mg "Plan" = some (.ref PC)
  ne : NoAttr K PC "_editions"
/-- an edition: its moment, the tuple, the contents -/
structure Ed where
  m : Int
  t : Addr
  x : Addr
  c : K54C.Ct
def Ed.v (e : Ed) : V := .ref e.t
structure EdAt (C : Addr) (H : Hp) (e : Ed) : Prop where
  tp : H e.t = some (.tup [.int e.m, .ref e.x])
  ct : K54C.CAt (fun _ => True) C H e.x e.c
  ok : K54C.CtOk e.c
theorem EdAt.same {C : Addr} {H H' : Hp} {e : Ed} (h : EdAt C H e) (s : Same H H') : EdAt C H' e := ⟨s _ _ h.tp, h.ct.same s, h.ok⟩
/-- editions that make a plan -/
structure EdsOk (es : List Ed) : Prop where
  n1 : 1 ≤ es.length
  n7 : es.length ≤ 7
  mo : ∀ e ∈ es, 0 ≤ e.m ∧ e.m ≤ LM
  inc : ∀ (i : Nat) (a b : Ed), es[i]? = some a → es[i + 1]? = some b → a.m < b.m
  rl : ∀ a ∈ es, ∀ b ∈ es, a.c.us.map (·.z) = b.c.us.map (·.z)
def spBtwn (K : PySem.W.Frag) : Sp := K54F.spBtwn K
def spMom (K : PySem.W.Frag) : Sp := fun vs H Q _ => ∃ y, vs = [y] ∧ ((∃ i, y = .int i ∧ Q (.bl (decide (0 ≤ i) && decide (i ≤ LM))) H) ∨ (K54F.NoInt K H y ∧ Q (.bl false) H))
def spIdx (K : PySem.W.Frag) : Sp := fun vs H Q _ => ∃ y n, vs = [y, .int n] ∧ ((∃ i, y = .int i ∧ Q (.bl (decide (0 ≤ i) && decide (i ≤ n - 1))) H) ∨ (K54F.NoInt K H y ∧ Q (.bl false) H))
def spTup2 (K : PySem.W.Frag) : Sp := fun vs H Q _ => ∃ t xs n, vs = [.ref t, .int n] ∧ H t = some (.tup xs) ∧ Q (.bl (decide ((xs.length : Int) = n))) H
def spIsEd (C : Addr) : Sp := fun vs H Q _ => ∃ e, vs = [.ref e.t] ∧ EdAt C H e ∧ 0 ≤ e.m ∧ e.m ≤ LM ∧ Q (.bl true) H
section
variable {P : Program} {w : World} {K : PySem.W.Frag} {mg : Str → Option Value} {base : Heap} {C : Addr}
abbrev s_is_moment : Stmt := top 18
theorem sc_is_moment : FnScope ["value"] ["value"] (defScope s_is_moment) := ⟨rfl, rfl, rfl, by decide +kernel, rfl, by decide +kernel, by decide +kernel⟩
theorem ok_is_moment (D : DefK K mg "is_moment" s_is_moment) (T : TxP K mg) (G_is_between : Cal P w K mg base CX0 2 "is_between" (spBtwn K)) : Cal P w K mg base CX0 3 "is_moment" (spMom K) := by
  refine D.cal sc_is_moment (fun _ _ _ _ _ _ us hl => match us, hl with | [_], _ => rfl) (fun vs H Q E h => ?_) fun f cdv A outer s H vs Q E hr h => ?_
  · obtain ⟨y, rfl, _⟩ := h; rfl
  · obtain ⟨y, rfl, h⟩ := h
    refine ⟨_, (pss_one (ps_ret (pe_c G_is_between hr (by decide) rfl (pa_cons (pv 0) (pa_cons pe_int (pa_cons (pe_gc rfl T.g_LAST_MOMENT) pa_nil)))))), ?_⟩
    exact ⟨_, rfl, y, 0, LM, rfl, h⟩
abbrev s_is_index : Stmt := top 19
theorem sc_is_index : FnScope ["value", "many"] ["value", "many"] (defScope s_is_index) := ⟨rfl, rfl, rfl, by decide +kernel, rfl, by decide +kernel, by decide +kernel⟩
theorem ok_is_index (D : DefK K mg "is_index" s_is_index) (G_is_between : Cal P w K mg base CX0 2 "is_between" (spBtwn K)) : Cal P w K mg base CX0 3 "is_index" (spIdx K) := by
  refine D.cal sc_is_index (fun _ _ _ _ _ _ us hl => match us, hl with | [_, _], _ => rfl) (fun vs H Q E h => ?_) fun f cdv A outer s H vs Q E hr h => ?_
  · obtain ⟨y, n, rfl, _⟩ := h; rfl
  · obtain ⟨y, n, rfl, h⟩ := h
    refine ⟨_, (pss_one (ps_ret (pe_c G_is_between hr (by decide) rfl (pa_cons (pv 0) (pa_cons pe_int (pa_cons (pe_op op_sub (pv 1) pe_int) pa_nil)))))), ?_⟩
    exact ⟨_, rfl, _, rfl, _, _, rfl, rfl, y, 0, n - 1, rfl, h⟩
abbrev s_is_tuple_of : Stmt := top 20
theorem sc_is_tuple_of : FnScope ["value", "many"] ["value", "many"] (defScope s_is_tuple_of) := ⟨rfl, rfl, rfl, by decide +kernel, rfl, by decide +kernel, by decide +kernel⟩
theorem ok_is_tuple_of (D : DefK K mg "is_tuple_of" s_is_tuple_of) (T : TxP K mg) : Cal P w K mg base CX0 1 "is_tuple_of" (spTup2 K) := by
  refine D.cal sc_is_tuple_of (fun _ _ _ _ _ _ us hl => match us, hl with | [_, _], _ => rfl) (fun vs H Q E h => ?_) fun f cdv A outer s H vs Q E hr h => ?_
  · obtain ⟨t, xs, n, rfl, _⟩ := h; rfl
  · obtain ⟨t, xs, n, rfl, et, q⟩ := h
    refine ⟨_, (pss_one (ps_ret (pe_and (pe_callB call_isi (by rfl) T.b_isinstance (by decide +kernel) (pa_cons (pv 0) (pa_cons (pe_ty (n := "tuple") (by rfl) T.b_tuple (by decide +kernel)) pa_nil))) (pe_one (pe_cmpR op_eq (pe_callB call_len_seq (by rfl) T.b_len (by decide +kernel) (pa_cons (pv 0) pa_nil)) (pv 1) (nomark _)))))), ?_⟩
    refine ⟨_, rfl, .ref t, .ty "tuple", _, _, true, rfl, .ty "tuple", .base (.tup et), kit_ty (by decide +kernel), true, rfl, iteT ?_⟩
    refine ⟨_, rfl, t, xs, rfl, .inr (SqT.of et), _, rfl, rfl, ?_⟩
    have e : decide (V.int (xs.length : Int) = V.int n) = decide ((xs.length : Int) = n) := decide_eq_decide.mpr ⟨fun z => V.int.inj z, fun z => by rw [z]⟩
    rw [e]; exact q
abbrev s_is_edition : Stmt := top 36
theorem sc_is_edition : FnScope ["value"] ["value"] (defScope s_is_edition) := ⟨rfl, rfl, rfl, by decide +kernel, rfl, by decide +kernel, by decide +kernel⟩
theorem ok_is_edition (D : DefK K mg "_is_edition" s_is_edition) (T : TxP K mg) (J : K54C.CTx K mg C) (G_is_tuple_of : Cal P w K mg base CX0 1 "is_tuple_of" (spTup2 K)) (G_is_moment : Cal P w K mg base CX0 3 "is_moment" (spMom K)) : Cal P w K mg base CX0 4 "_is_edition" (spIsEd C) := by
  refine D.cal sc_is_edition (fun _ _ _ _ _ _ us hl => match us, hl with | [_], _ => rfl) (fun vs H Q E h => ?_) fun f cdv A outer s H vs Q E hr h => ?_
  · obtain ⟨e, rfl, _⟩ := h; rfl
  · obtain ⟨e, rfl, at_, m0, m1, q⟩ := h
    refine ⟨_, (pss_one (ps_ret (pe_and (pe_c G_is_tuple_of hr (by decide) rfl (pa_cons (pv 0) (pa_cons pe_int pa_nil))) (pe_and (pe_c G_is_moment hr (by decide) rfl (pa_cons (pe_ix (r := rIxT K) ix_tup (pv 0) pe_int (fun _ _ => rfl)) pa_nil)) (pe_one (pe_callB call_isi (by rfl) T.b_isinstance (by decide +kernel) (pa_cons (pe_ix (r := rIxT K) ix_tup (pv 0) pe_int (fun _ _ => rfl)) (pa_cons (pe_glob (v := .ref C) rfl J.cC rfl) pa_nil)))))))), ?_⟩
    have sq : SqT K H e.t [.int e.m, .ref e.x] := SqT.of at_.tp
    obtain ⟨⟨dx, d, v, sg, ex, _⟩, _⟩ := id at_.ct
    refine ⟨_, rfl, e.t, _, 2, rfl, at_.tp, true, rfl, iteT ?_⟩
    refine ⟨_, rfl, e.t, _, 0, _, rfl, rfl, sq, atI_nat (j := 0) rfl, .int e.m, rfl, .inl ⟨e.m, rfl, true, by rw [decide_eq_true m0, decide_eq_true m1]; rfl, iteT ?_⟩⟩
    exact ⟨_, rfl, e.t, _, 1, _, rfl, rfl, sq, atI_nat (j := 1) rfl, .ref e.x, .ref C, _, _, true, rfl, .own C, J.ty ex, J.kCC, q⟩
end
end K54
namespace K54
open PySem PySem.Spec PyProof.Rows L2 Jg
local macro_rules | `(tactic| walk_at "rd1") => `(tactic| (first
  | refine ⟨_, rfl, ?_⟩
  | refine ⟨_, _, rfl, rfl, ?_⟩
  | refine ⟨_, _, rfl, ?_⟩
  | refine ⟨rfl, ?_⟩
  | (refine ⟨show (0 : Int) < _ by omega, ?_⟩)
  | (refine ⟨Or.inl ⟨by omega, by omega⟩, ?_⟩)
  | (refine ⟨Or.inr ⟨by omega, by omega⟩, ?_⟩)
  | (refine ⟨(⟨by decide, by decide, by decide⟩ : CPow _ _), ?_⟩)
  | refine Or.inl ⟨_, rfl, ?_⟩
  | refine Or.inr ⟨_, rfl, ?_⟩
  | fail "rd"))
local macro_rules | `(tactic| walk_at "rd") => `(tactic| repeat' walk_at "rd1")
/-! ### plans are made and read -/
def spFw (C : Addr) : Sp := fun vs H Q _ => ∃ l es, vs = [.ref l] ∧ H l = some (.lst (es.map Ed.v)) ∧ (∀ e ∈ es, EdAt C H e) ∧ EdsOk es ∧ ∀ H', Same H H' → Q .non H'
theorem ed_at {es : List Ed} {i : Nat} {x : V} (h : (es.map Ed.v)[i]? = some x) : ∃ e, es[i]? = some e ∧ x = .ref e.t := by
  rw [List.getElem?_map] at h
  cases c : es[i]? with
  | none => rw [c] at h; cases h
  | some e => rw [c] at h; exact ⟨e, rfl, (Option.some.inj h).symm⟩
theorem ed_get {es : List Ed} {i : Nat} {e : Ed} (h : es[i]? = some e) : (es.map Ed.v)[i]? = some (.ref e.t) := by rw [List.getElem?_map, h]; rfl
theorem okW_role {c : K54C.Ct} (ok : K54C.CtOk c) : ∀ z ∈ c.us.map (·.z), okW z := fun z hz => by
  obtain ⟨r, hr, rfl⟩ := List.mem_map.mp hz
  have w := (ok.us r hr).2.1
  unfold K54C.wordB at w
  exact okW_ascii (Bool.and_eq_true_iff.mp (Bool.and_eq_true_iff.mp w).2).1
/-- a plan stands at p -/
structure PlAt (PC C : Addr) (H : Hp) (p : Addr) (es : List Ed) : Prop where
  ex : ∃ dx l, H p = some (.ins PC dx [(("_editions" : Str), .ref l)]) ∧ H l = some (.lst (es.map Ed.v))
  eds : ∀ e ∈ es, EdAt C H e
  ok : EdsOk es
theorem PlAt.same {PC C : Addr} {H H' : Hp} {p : Addr} {es : List Ed} (h : PlAt PC C H p es) (s : Same H H') : PlAt PC C H' p es :=
  let ⟨dx, l, e1, e2⟩ := h.ex
  ⟨⟨dx, l, s _ _ e1, s _ _ e2⟩, fun e he => (h.eds e he).same s, h.ok⟩
def Ed.k (e : Ed) : Int × Addr × K54C.Ct := (e.m, e.x, e.c)
theorem get_e (l : Addr) : ([(("_editions" : Str), V.ref l)] : List (Str × V)).lookup ("_editions" : Str) = some (.ref l) := by
  have e : ((("_editions" : Str)) == ("_editions" : Str)) = true := by decide +kernel
  simp only [List.lookup, e]
theorem get_eno (l : Addr) {m : Str} (h : (m == ("_editions" : Str)) = false) : ([(("_editions" : Str), V.ref l)] : List (Str × V)).lookup m = none := by
  simp only [List.lookup, h]
theorem for_enum {K : PySem.W.Frag} {a : Addr} {xs : List V} {g : TG} {tb : TS} {D : Ends} {σ : L2.St} {H : Hp} {i : Nat} (hi : σ[i]? = some (some (.ref a))) (ea : H a = some (.lst xs)) (Pv : Nat → L2.St → Hp → Prop) (h0 : Pv 0 σ H) (hq : ∀ i σ H', Pv i σ H' → Same H H')
    (hs : ∀ (j : Nat) (x : V) (T : Addr) (σ : L2.St) (H : Hp), xs[j]? = some x → Pv j σ H → H T = none → g (.ref T) σ (upd H T (.tup [.int (j : Nat), x])) fun σ2 H2 => tb { D with nx := Pv (j + 1), ct := Pv (j + 1), bk := D.nx } σ2 H2) (hd : ∀ σ H, Pv xs.length σ H → D.nx σ H) :
    tFor (iEnum K (tCons (tVar i) tNil)) g tb D σ H := by
  unfold tFor iEnum
  exact ⟨_, hi, a, xs, rfl, SqL.of ea, for_it walk_enum Pv h0 (fun i σ H' _ p => SqL.of (hq _ _ _ p _ _ ea)) (fun j x σ H' H2 lt p y => by
    obtain ⟨T, kk, vv, rfl, nT, rfl, ek, ev⟩ := y
    cases Option.some.inj ek
    exact hs j vv T σ H' ev p nT) hd⟩
section
variable {P : Program} {w : World} {K : PySem.W.Frag} {mg : Str → Option Value} {base : Heap} {C PC CU : Addr}
abbrev s_first_wrong : Stmt := top 37
theorem sc_first_wrong : FnScope ["editions", "number", "edition"] ["editions"] (defScope s_first_wrong) := ⟨rfl, rfl, rfl, by decide +kernel, rfl, by decide +kernel, by decide +kernel⟩
theorem ok_first_wrong (D : DefK K mg "_first_wrong" s_first_wrong) (T : TxP K mg) (J : K54C.CTx K mg C) (G_is_edition : Cal P w K mg base CX0 4 "_is_edition" (spIsEd C)) (P_roles : Prp P w K mg base CX0 1 C "roles" (K54C.spLst C fun c => c.us.map (·.z))) : Cal P w K mg base CX0 5 "_first_wrong" (spFw C) := by
  refine D.cal sc_first_wrong (fun _ _ _ _ _ _ us hl => match us, hl with | [_], _ => rfl) (fun vs H Q E h => ?_) fun f cdv A outer s H vs Q E hr h => ?_
  · obtain ⟨l, es, rfl, _⟩ := h; rfl
  · obtain ⟨l, es, rfl, el, at_, ok, k⟩ := h
    have hu : (A.deeper (envOfC "_first_wrong" (defScope s_first_wrong) s.heap.objs.size f cdv)).units + 64 < cLine := hr.units
    refine ⟨_, (pss_cons (ps_for PassesOwn.never rfl (pi_enum (by rfl) T.b_enumerate (pa_cons (pv 0) pa_nil)) (pg_tup rfl (pgs_cons (pg_name (i := 1) sc_first_wrong.nd rfl (Or.inl rfl)) (pgs_cons (pg_name (i := 2) sc_first_wrong.nd rfl (Or.inl rfl)) pgs_nil))) (pss_cons (ps_if (pt_not (pt_val (pe_c G_is_edition hr (by decide) rfl (pa_cons (pv 2) pa_nil)))) (pss_one (ps_ret (pv 1))) pss_nil)
      (C8.pss_cut (ps_if (PW.pt (pw_and (pt_cmpR op_gt (pv 1) pe_int (nomark _)) (pw_and1 (pt_cmpR op_le (pe_ix (r := rIxT K) ix_tup (pv 2) pe_int (fun _ _ => rfl)) (pe_ix (r := rIxT K) ix_tup (pe_ix (r := rIxL K) ix_list (pv 0) (pe_op op_sub (pv 1) pe_int) (fun _ _ => rfl)) pe_int (fun _ _ => rfl)) (nomark _))))) (pss_one (ps_ret (pv 1))) pss_nil)
      (pss_one (ps_if (pt_cmpR (op_neD hu) (pe_p P_roles J.cl hr (by decide) (pe_ix (r := rIxT K) ix_tup (pv 2) pe_int (fun _ _ => rfl))) (pe_p P_roles J.cl hr (by decide) (pe_ix (r := rIxT K) ix_tup (pe_ix (r := rIxL K) ix_list (pv 0) pe_int (fun _ _ => rfl)) pe_int (fun _ _ => rfl))) (nomark _)) (pss_one (ps_ret (pv 1))) pss_nil)))))
      (pss_one (ps_ret pe_non))), ?_⟩
    refine for_enum (a := l) (xs := es.map Ed.v) rfl el (fun j σ' H' => ∃ v1 v2, σ' = [some (.ref l), v1, v2] ∧ Same H H') ⟨_, _, rfl, .refl _⟩ (fun j σ' H' ⟨_, _, _, s⟩ => s) ?_ ?_
    · rintro j y T0 σ' H' hy ⟨v1, v2, rfl, s'⟩ nT
      obtain ⟨e, ee, rfl⟩ := ed_at hy
      have he := List.mem_of_getElem? ee
      have sT := same_new' (o := .tup [.int (j : Nat), .ref e.t]) s' nT
      refine ⟨T0, _, rfl, SqT.of upd_same, rfl, _, _, rfl, _, _, rfl, rfl, ?_⟩
      generalize upd H' T0 (.tup [.int (j : Nat), .ref e.t]) = H1 at *
      have ae := (at_ e he).same sT
      have sq : SqT K H1 e.t [.int e.m, .ref e.x] := SqT.of ae.tp
      have sl : SqL K H1 l (es.map Ed.v) := SqL.of (sT _ _ el)
      refine ⟨_, rfl, e, rfl, ae, (ok.mo e he).1, (ok.mo e he).2, _, rfl, iteF ?_⟩
      obtain ⟨e0, ee0⟩ : ∃ e0, es[0]? = some e0 := by
        have := ok.n1
        match es, this with
        | e0 :: _, _ => exact ⟨e0, rfl⟩
      have he0 := List.mem_of_getElem? ee0
      have a0 := (at_ e0 he0).same sT
      have sq0 : SqT K H1 e0.t [.int e0.m, .ref e0.x] := SqT.of a0.tp
      obtain ⟨⟨dx, d, v, sg, ex, _⟩, _⟩ := id ae.ct
      obtain ⟨⟨dx0, d0, v0, sg0, ex0, _⟩, _⟩ := id a0.ct
      have few : e.c.us.length ≤ 3 := ae.ok.n3
      refine ⟨fun σ' H2 => σ' = [some (.ref l), some (.int (j : Nat)), some (.ref e.t)] ∧ H2 = H1, ?_, ?_⟩
      · refine ⟨_, rfl, _, _, rfl, rfl, _, rfl, ?_⟩
        by_cases c0 : (0 : Int) < (j : Nat)
        · rw [decide_eq_true c0]
          refine iteT ?_
          obtain ⟨i0, rfl⟩ : ∃ i0, j = i0 + 1 := ⟨j - 1, by omega⟩
          have ej : (((i0 + 1 : Nat) : Int) - 1) = ((i0 : Nat) : Int) := by omega
          obtain ⟨b, eb⟩ : ∃ b, es[i0]? = some b := ⟨_, List.getElem?_eq_getElem (by have := (List.getElem?_eq_some_iff.mp ee).1; omega)⟩
          have ab := (at_ b (List.mem_of_getElem? eb)).same sT
          have lt := ok.inc i0 b e eb ee
          refine ⟨_, rfl, e.t, _, 0, _, rfl, rfl, sq, atI_nat (j := 0) rfl, _, rfl, _, rfl, _, _, rfl, rfl, l, _, _, .ref b.t, rfl, rfl, sl, ?_, b.t, _, 0, _, rfl, rfl, SqT.of ab.tp, atI_nat (j := 0) rfl, _, _, rfl, rfl, _, rfl, ?_⟩
          · rw [ej]
            exact atI_nat (j := i0) (ed_get eb)
          · rw [decide_eq_false (by omega)]
            exact iteF ⟨rfl, rfl⟩
        · rw [decide_eq_false c0]
          exact iteF (iteF ⟨rfl, rfl⟩)
      · rintro _ _ ⟨rfl, rfl⟩
        refine ⟨_, rfl, e.t, _, 1, _, rfl, rfl, sq, atI_nat (j := 1) rfl, e.x, dx, _, rfl, ex, e.x, e.c, _, rfl, ae.ct, fun p1 n1 => ?_⟩
        have s1 := same_new (o := .lst ((e.c.us.map (·.z)).map V.str)) n1
        refine ⟨_, rfl, _, _, 0, _, rfl, rfl, s1.seq sl, atI_nat (j := 0) (ed_get ee0), e0.t, _, 1, _, rfl, rfl, SqT.of (s1 _ _ a0.tp), atI_nat (j := 1) rfl, e0.x, dx0, _, rfl, s1 _ _ ex0, e0.x, e0.c, _, rfl, a0.ct.same s1, fun p2 n2 => ?_⟩
        have s2 := same_new (o := .lst ((e0.c.us.map (·.z)).map V.str)) n2
        refine ask_neS (xs := e.c.us.map (·.z)) (ys := e0.c.us.map (·.z)) (SqL.of (s2 _ _ upd_same)) (SqL.of upd_same) (okW_role ae.ok) (okW_role a0.ok) ⟨_, rfl, iteFe (by rw [decide_eq_true (ok.rl e he e0 he0)]; rfl) ⟨_, _, rfl, sT.trans (s1.trans s2)⟩⟩
    · rintro σ' H' ⟨v1, v2, rfl, s'⟩
      exact k _ s'
end
end K54
namespace K54
open PySem PySem.Spec PyProof.Rows L2 Jg
local macro_rules | `(tactic| walk_at "rd1") => `(tactic| (first
  | refine ⟨_, rfl, ?_⟩
  | refine ⟨_, _, rfl, rfl, ?_⟩
  | refine ⟨_, _, rfl, ?_⟩
  | refine ⟨rfl, ?_⟩
  | (refine ⟨show (0 : Int) < _ by omega, ?_⟩)
  | (refine ⟨Or.inl ⟨by omega, by omega⟩, ?_⟩)
  | (refine ⟨Or.inr ⟨by omega, by omega⟩, ?_⟩)
  | (refine ⟨(⟨by decide, by decide, by decide⟩ : CPow _ _), ?_⟩)
  | refine Or.inl ⟨_, rfl, ?_⟩
  | refine Or.inr ⟨_, rfl, ?_⟩
  | fail "rd"))
local macro_rules | `(tactic| walk_at "rd") => `(tactic| repeat' walk_at "rd1")
/-! ### the methods of plans -/
theorem EdsOk.of {es es' : List Ed} (h : es'.map Ed.k = es.map Ed.k) (ok : EdsOk es) : EdsOk es' := by
  have l := congrArg List.length h
  rw [List.length_map, List.length_map] at l
  have mem : ∀ e ∈ es', ∃ q ∈ es, Ed.k q = Ed.k e := fun e he => by
    have m : Ed.k e ∈ es.map Ed.k := h ▸ List.mem_map_of_mem he
    obtain ⟨q, hq, eq⟩ := List.mem_map.mp m
    exact ⟨q, hq, eq⟩
  have at_ : ∀ {i : Nat} {e : Ed}, es'[i]? = some e → ∃ q, es[i]? = some q ∧ Ed.k q = Ed.k e := fun {i e} he => by
    have z : (es'.map Ed.k)[i]? = some (Ed.k e) := by rw [List.getElem?_map, he]; rfl
    rw [h, List.getElem?_map] at z
    cases c : es[i]? with
    | none => rw [c] at z; cases z
    | some q => rw [c] at z; exact ⟨q, rfl, Option.some.inj z⟩
  refine ⟨by rw [l]; exact ok.n1, by rw [l]; exact ok.n7, fun e he => ?_, fun i a b ha hb => ?_, fun a ha b hb => ?_⟩
  · obtain ⟨q, hq, e1⟩ := mem e he
    have z := ok.mo q hq
    rw [show q.m = e.m from congrArg (·.1) e1] at z
    exact z
  · obtain ⟨a', ha', e1⟩ := at_ ha
    obtain ⟨b', hb', e2⟩ := at_ hb
    have z := ok.inc i a' b' ha' hb'
    rw [show a'.m = a.m from congrArg (·.1) e1, show b'.m = b.m from congrArg (·.1) e2] at z
    exact z
  · obtain ⟨a', ha', e1⟩ := mem a ha
    obtain ⟨b', hb', e2⟩ := mem b hb
    have z := ok.rl a' ha' b' hb'
    rw [show a'.c = a.c from congrArg (·.2.2) e1, show b'.c = b.c from congrArg (·.2.2) e2] at z
    exact z
theorem EdAt.of {C : Addr} {H H' : Hp} {e q : Ed} (h : EdAt C H q) (k : Ed.k q = Ed.k e) (s : Same H H') (t : H' e.t = some (.tup [.int e.m, .ref e.x])) : EdAt C H' e := by
  have k2 : q.x = e.x := congrArg (·.2.1) k
  have k3 : q.c = e.c := congrArg (·.2.2) k
  exact ⟨t, by rw [← k2, ← k3]; exact h.ct.same s, by rw [← k3]; exact h.ok⟩
def spPInit (PC C : Addr) : Sp := fun vs H Q _ => ∃ x dx l es H0, vs = [.ref x, .ref l] ∧ H x = some (.ins PC dx []) ∧ Same H0 H ∧ H0 x = none ∧ H0 l = some (.lst (es.map Ed.v)) ∧ (∀ e ∈ es, EdAt C H0 e) ∧ EdsOk es ∧
  ∀ H' es', PlAt PC C H' x es' → es'.map Ed.k = es.map Ed.k → Same H0 H' → Q .non H'
def spPLen (PC C : Addr) : Sp := fun vs H Q _ => ∃ p es, vs = [.ref p] ∧ PlAt PC C H p es ∧ Q (.int es.length) H
def spPCheck (K : PySem.W.Frag) (PC C CE : Addr) : Sp := fun vs H Q E => ∃ p es y, vs = [.ref p, y] ∧ PlAt PC C H p es ∧
  ((∃ n : Nat, y = .int n ∧ n < es.length ∧ Q .non H) ∨ (K54F.BadR K H 0 (es.length - 1) y ∧ ∀ d H', H d = none → Same H H' → H' d = some (.xd [(("number" : Str), y)]) → E (.ref CE) (some d) H'))
def spPOf (K : PySem.W.Frag) (PC C CE : Addr) (out : Ed → V) : Sp := fun vs H Q E => ∃ p es y, vs = [.ref p, y] ∧ PlAt PC C H p es ∧
  ((∃ (n : Nat) (e : Ed), y = .int n ∧ es[n]? = some e ∧ Q (out e) H) ∨ (K54F.BadR K H 0 (es.length - 1) y ∧ ∀ d H', H d = none → Same H H' → H' d = some (.xd [(("number" : Str), y)]) → E (.ref CE) (some d) H'))
def spPMoms (PC C : Addr) : Sp := fun vs H Q _ => ∃ p es, vs = [.ref p] ∧ PlAt PC C H p es ∧ ∀ l H', H l = none → Same H H' → H' l = some (.lst (es.map fun e => V.int e.m)) → Q (.ref l) H'
section
variable {P : Program} {w : World} {K : PySem.W.Frag} {mg : Str → Option Value} {base : Heap} {C PC CU CE : Addr}
abbrev s_UnknownEdition_init : Stmt := inClass (top 10) 0
theorem sc_UnknownEdition_init : FnScope ["self", "number"] ["self", "number"] (defScope s_UnknownEdition_init) := ⟨rfl, rfl, rfl, by decide +kernel, rfl, by decide +kernel, by decide +kernel⟩
theorem ok_ueinit (D : K54F.ExnQ K mg "UnknownEdition" CE "UnknownEdition.__init__" s_UnknownEdition_init "number") : ExnB P w K mg base 1 "UnknownEdition" CE (spX CE "number") := by
  obtain ⟨fI, fd, F, a, ty⟩ := D.ini
  refine ⟨D.mg_, D.ovr, fI, fd, _, F.ok sc_UnknownEdition_init (fun vs H Q E h => ?_) (fun cdv A outer s H vs Q E hr h => ?_), a, ty, F.binds (fun _ _ _ _ _ _ us hl => match us, hl with | [_, _], _ => rfl)⟩
  · obtain ⟨a, y, rfl, _⟩ := h; rfl
  · obtain ⟨a, y, rfl, ha, k⟩ := h
    exact ⟨_, (pss_one (ps_keep (pv 0) (pv 1))), _, rfl, _, rfl, a, CE, rfl, D.ovr, D.no, ha, fun dx n e => k dx n e⟩
abbrev s_Plan_init : Stmt := inClass (top 38) 0
theorem sc_Plan_init : FnScope ["self", "editions", "wrong", "moment", "contents"] ["self", "editions"] (defScope s_Plan_init) := ⟨rfl, rfl, rfl, by decide +kernel, rfl, by decide +kernel, by decide +kernel⟩
theorem ok_pinit (D : MetK K PC "__init__" "Plan.__init__" s_Plan_init) (T : TxP K mg) (PT : PTx K mg PC) (G_first_wrong : Cal P w K mg base CX0 5 "_first_wrong" (spFw C)) : Met P w K mg base CX0 6 PC "__init__" (spPInit PC C) := by
  refine D.met sc_Plan_init (fun _ _ _ _ _ _ us hl => match us, hl with | [_, _], _ => rfl) (fun vs H Q E h => ?_) fun f cdv A outer s H vs Q E hr h => ?_
  · obtain ⟨x, dx, l, es, H0, rfl, _⟩ := h; rfl
  · obtain ⟨x, dx, l, es, H0, rfl, ex, s0, nx, el0, at0, ok, k⟩ := h
    refine ⟨_, (pss_cons (ps_if (PW.pt (pw_or (pt_not (pt_val (pe_callB call_isi (by rfl) T.b_isinstance (by decide +kernel) (pa_cons (pv 1) (pa_cons (pe_ty (n := "list") (by rfl) T.b_list (by decide +kernel)) pa_nil))))) (pw_or1 (pt_not (pt_chain op_le op_le pe_int (pe_callB call_len_seq (by rfl) T.b_len (by decide +kernel) (pa_cons (pv 1) pa_nil)) (pe_gc rfl T.gMOST_EDITIONS)))))) (pss_one ps_never) pss_nil)
      (pss_cons (ps_set (i := 2) sc_Plan_init.nd rfl (Or.inl rfl) (pe_c G_first_wrong hr (by decide) rfl (pa_cons (pv 1) pa_nil)))
      (pss_cons (ps_if (pt_cmpR op_notN (pv 2) pe_non (nomark _)) (pss_one ps_never) pss_nil)
      (pss_one (ps_fld (pv 0) (pe_lc (own := [("moment", 3), ("contents", 4)]) (g := gTup K 2 (gCons (gName 3) (gCons (gName 4) gNil))) (by rfl) sc_Plan_init.nd (pi_list (pv 1)) (blkOk_by (own := [("moment", 3), ("contents", 4)]) (N := ["self", "editions", "wrong", "moment", "contents"]) (sc := defScope s_Plan_init) (by decide +kernel)) (fun _ _ _ _ _ => pg_tup rfl (pgs_cons (pg_name (i := 3) sc_Plan_init.nd rfl (Or.inl rfl)) (pgs_cons (pg_name (i := 4) sc_Plan_init.nd rfl (Or.inl rfl)) pgs_nil))) (fun _ _ _ _ _ => pts_nil) (fun _ _ _ _ _ => (pe_tup (pa_cons (pv 3) (pa_cons (pv 4) pa_nil))))) rfl))))), ?_⟩
    have el := s0 _ _ el0
    have at_ : ∀ e ∈ es, EdAt C H e := fun e he => (at0 e he).same s0
    have n1 := ok.n1
    have n7 := ok.n7
    have ln : ((es.map Ed.v).length : Int) = (es.length : Int) := by rw [List.length_map]
    refine ⟨_, rfl, .ref l, .ty "list", _, _, true, rfl, .ty "list", .base (.lst el), kit_ty (by decide +kernel), true, rfl, iteF ?_⟩
    refine ⟨_, rfl, l, _, rfl, .inl (SqL.of el), 1, _, rfl, rfl, _, rfl, iteTe (decide_eq_true (by rw [ln]; omega)) ⟨_, _, rfl, rfl, _, rfl, ?_⟩⟩
    rw [decide_eq_true (show ((es.map Ed.v).length : Int) ≤ 7 by rw [ln]; omega)]
    refine iteF ?_
    refine ⟨_, rfl, l, es, rfl, el, at_, ok, fun H1 s1 => ?_⟩
    refine ⟨_, rfl, rfl, _, rfl, iteF ?_⟩
    refine ⟨_, rfl, l, rfl, ⟨_, SqL.of (s1 _ _ el)⟩, fun D nD => ?_⟩
    refine lc_list (K := K) (a := l) (xs := es.map Ed.v) (fun i H' => ∃ es', H' D = some (.lst (es'.map Ed.v)) ∧ es'.map Ed.k = (es.take i).map Ed.k ∧ (∀ e ∈ es', H' e.t = some (.tup [.int e.m, .ref e.x])) ∧ Same H1 H') ⟨[], upd_same, rfl, (fun _ h => nomatch h), same_new nD⟩ (fun i H' _ ⟨_, _, _, _, s⟩ => SqL.of (s _ _ (s1 _ _ el))) ?_ ?_
    · rintro i y H' hy ⟨es', eD, eP, cP, sP⟩
      obtain ⟨e, ee, rfl⟩ := ed_at hy
      have ae := ((at_ e (List.mem_of_getElem? ee)).same s1).same sP
      have tk : es.take (i + 1) = es.take i ++ [e] := by rw [List.take_succ, ee]; rfl
      refine ⟨e.t, _, rfl, SqT.of ae.tp, rfl, _, _, rfl, _, _, rfl, rfl, rfl, K54C.yes_if ?_⟩
      refine ⟨_, rfl, _, rfl, by show 2 ≤ sizeLine; decide, fun t nt => ?_⟩
      have pl : es'.length = (es.take i).length := by
        have z1 := congrArg List.length eP
        rw [List.length_map, List.length_map] at z1
        exact z1
      have pt := List.length_take_le i es
      have pm : es'.length ≤ 7 := by rw [pl, List.length_take]; omega
      refine ⟨_, (same_new nt) _ _ eD, by rw [List.length_map, sizeLine_eq]; omega, es' ++ [⟨e.m, t, e.x, e.c⟩], by rw [upd_same, List.map_append]; rfl, by rw [List.map_append, eP, tk, List.map_append]; rfl, fun q hq => ?_, fun q o z => ?_⟩
      · rcases List.mem_append.mp hq with hq | hq
        · have nq : q.t ≠ D := fun z => by have := cP q hq; rw [z, eD] at this; cases this
          rw [upd_ne nq]
          exact same_new nt _ _ (cP q hq)
        · obtain rfl := List.mem_singleton.mp hq
          have nq : t ≠ D := fun z => by rw [z, eD] at nt; cases nt
          show upd _ D _ t = _
          rw [upd_ne nq]
          exact upd_same
      · have nq : q ≠ D := ne_of_none z nD
        rw [upd_ne nq]
        exact same_new nt _ _ (sP _ _ z)
    · rintro H' ⟨es', eD, eP, cP, sP⟩
      rw [show (es.map Ed.v).length = es.length by rw [List.length_map], List.take_length] at eP
      have ex' := sP _ _ (s1 _ _ ex)
      refine ⟨_, rfl, x, PC, dx, [], rfl, ex', PT.cl, PT.ne, by show 0 < 1000; decide, ?_⟩
      have s4 : Same H0 (upd H' x (.ins PC dx [(("_editions" : Str), .ref D)])) := same_mut (s0.trans (s1.trans sP)) nx
      have nD' : D ≠ x := fun z => by rw [z, ex'] at eD; cases eD
      refine k _ es' ⟨⟨dx, D, upd_same, by rw [upd_ne nD']; exact eD⟩, fun e he => ?_, ok.of eP⟩ eP s4
      have me : Ed.k e ∈ es.map Ed.k := eP ▸ List.mem_map_of_mem he
      obtain ⟨q, hq, eq⟩ := List.mem_map.mp me
      have nt : e.t ≠ x := fun z => by have := cP e he; rw [z, ex'] at this; cases this
      exact ((at0 q hq).of eq s4 (by rw [upd_ne nt]; exact cP e he))
abbrev s_Plan_len : Stmt := inClass (top 38) 1
theorem sc_Plan_len : FnScope ["self"] ["self"] (defScope s_Plan_len) := ⟨rfl, rfl, rfl, by decide +kernel, rfl, by decide +kernel, by decide +kernel⟩
theorem ok_plen (D : MetK K PC "__len__" "Plan.__len__" s_Plan_len) (T : TxP K mg) (PT : PTx K mg PC) : Met P w K mg base CX0 1 PC "__len__" (spPLen PC C) := by
  refine D.met sc_Plan_len (fun _ _ _ _ _ _ us hl => match us, hl with | [_], _ => rfl) (fun vs H Q E h => ?_) fun f cdv A outer s H vs Q E hr h => ?_
  · obtain ⟨p, es, rfl, _⟩ := h; rfl
  · obtain ⟨p, es, rfl, ⟨⟨dx, l, e1, e2⟩, at_, ok⟩, k⟩ := h
    refine ⟨_, (pss_one (ps_ret (pe_callB call_len_seq (by rfl) T.b_len (by decide +kernel) (pa_cons (pe_fld (pv 0) rfl) pa_nil)))), ?_⟩
    refine ⟨_, rfl, p, PC, dx, _, .ref l, rfl, e1, PT.cl, PT.ne, get_e l, l, _, rfl, .inl (SqL.of e2), ?_⟩
    rw [show ((es.map Ed.v).length : Int) = (es.length : Int) by rw [List.length_map]]
    exact k
abbrev s_Plan_check : Stmt := inClass (top 38) 6
theorem sc_Plan_check : FnScope ["self", "number"] ["self", "number"] (defScope s_Plan_check) := ⟨rfl, rfl, rfl, by decide +kernel, rfl, by decide +kernel, by decide +kernel⟩
theorem ok_pcheck (D : MetK K PC "_check" "Plan._check" s_Plan_check) (T : TxP K mg) (PT : PTx K mg PC) (G_is_index : Cal P w K mg base CX0 3 "is_index" (spIdx K)) (G_UnknownEdition : ExnB P w K mg base 1 "UnknownEdition" CE (spX CE "number")) : Met P w K mg base (L2.CX P w) 4 PC "_check" (spPCheck K PC C CE) := by
  refine D.metX sc_Plan_check (fun _ _ _ _ _ _ us hl => match us, hl with | [_, _], _ => rfl) (fun vs H Q E h => ?_) fun f cdv A outer s H vs Q E hr h => ?_
  · obtain ⟨p, es, y, rfl, _⟩ := h; rfl
  · obtain ⟨p, es, y, rfl, ⟨⟨dx, l, e1, e2⟩, at_, ok⟩, k⟩ := h
    refine ⟨_, (pss_one (ps_if (pt_not (pt_val (pe_c G_is_index hr (by decide) rfl (pa_cons (pv 1) (pa_cons (pe_callB call_len_seq (by rfl) T.b_len (by decide +kernel) (pa_cons (pe_fld (pv 0) rfl) pa_nil)) pa_nil))))) (pss_one (ps_raise rfl (takes_of rfl rfl rfl rfl) (pmk_b G_UnknownEdition hr (by decide) rfl (pa_cons (pv 1) pa_nil)))) pss_nil)), ?_⟩
    have ln : ((es.map Ed.v).length : Int) = (es.length : Int) := by rw [List.length_map]
    refine ⟨_, rfl, _, rfl, p, PC, dx, _, .ref l, rfl, e1, PT.cl, PT.ne, get_e l, l, _, rfl, .inl (SqL.of e2), y, _, rfl, ?_⟩
    rw [ln]
    rcases k with ⟨n, rfl, lt, q⟩ | ⟨bad, k⟩
    · refine .inl ⟨n, rfl, _, rfl, ?_⟩
      rw [decide_eq_true (show (0 : Int) ≤ (n : Int) by omega), decide_eq_true (show (n : Int) ≤ (es.length : Int) - 1 by omega)]
      exact iteF q
    · rcases bad with ⟨i, rfl, e⟩ | no
      · refine .inl ⟨i, rfl, _, rfl, ?_⟩
        rw [e]
        exact iteT ⟨_, rfl, x_read fun d nd => k d _ nd (same_new nd) upd_same⟩
      · exact .inr ⟨no, _, rfl, iteT ⟨_, rfl, x_read fun d nd => k d _ nd (same_new nd) upd_same⟩⟩
abbrev s_Plan_moment_of : Stmt := inClass (top 38) 7
theorem sc_Plan_moment_of : FnScope ["self", "number"] ["self", "number"] (defScope s_Plan_moment_of) := ⟨rfl, rfl, rfl, by decide +kernel, rfl, by decide +kernel, by decide +kernel⟩
theorem ok_pmo (D : MetK K PC "moment_of" "Plan.moment_of" s_Plan_moment_of) (T : TxP K mg) (PT : PTx K mg PC) (M_check : Met P w K mg base (L2.CX P w) 4 PC "_check" (spPCheck K PC C CE)) : Met P w K mg base (L2.CX P w) 5 PC "moment_of" (spPOf K PC C CE fun e => .int e.m) := by
  refine D.metX sc_Plan_moment_of (fun _ _ _ _ _ _ us hl => match us, hl with | [_, _], _ => rfl) (fun vs H Q E h => ?_) fun f cdv A outer s H vs Q E hr h => ?_
  · obtain ⟨p, es, y, rfl, _⟩ := h; rfl
  · obtain ⟨p, es, y, rfl, pl, k⟩ := h
    obtain ⟨⟨dx, l, e1, e2⟩, at_, ok⟩ := id pl
    refine ⟨_, (pss_cons (ps_expr (pe_mS M_check PT.cl (takes_of rfl rfl rfl rfl) hr (by decide) (pv 0) (pa_cons (pv 1) pa_nil)))
      (pss_one (ps_ret (pe_ix (r := rIxT K) ix_tup (pe_ix (r := rIxL K) ix_list (pe_fld (pv 0) rfl) (pv 1) (fun _ _ => rfl)) pe_int (fun _ _ => rfl))))), ?_⟩
    refine ⟨_, rfl, p, dx, _, rfl, e1, get_eno _ (by decide +kernel), _, rfl, p, es, y, rfl, pl, ?_⟩
    rcases k with ⟨n, e, rfl, en, q⟩ | ⟨bad, k⟩
    · refine .inl ⟨n, rfl, (List.getElem?_eq_some_iff.mp en).1, ?_⟩
      refine ⟨_, rfl, p, PC, dx, _, .ref l, rfl, e1, PT.cl, PT.ne, get_e l, _, rfl, l, _, _, .ref e.t, rfl, rfl, SqL.of e2, atI_nat (j := n) (ed_get en), e.t, _, _, _, rfl, rfl, SqT.of (at_ e (List.mem_of_getElem? en)).tp, atI_nat (j := 0) rfl, q⟩
    · exact .inr ⟨bad, fun d H' nd s2 ed => k d H' nd s2 ed⟩
abbrev s_Plan_contents_of : Stmt := inClass (top 38) 8
theorem sc_Plan_contents_of : FnScope ["self", "number"] ["self", "number"] (defScope s_Plan_contents_of) := ⟨rfl, rfl, rfl, by decide +kernel, rfl, by decide +kernel, by decide +kernel⟩
theorem ok_pco (D : MetK K PC "contents_of" "Plan.contents_of" s_Plan_contents_of) (T : TxP K mg) (PT : PTx K mg PC) (M_check : Met P w K mg base (L2.CX P w) 4 PC "_check" (spPCheck K PC C CE)) : Met P w K mg base (L2.CX P w) 5 PC "contents_of" (spPOf K PC C CE fun e => .ref e.x) := by
  refine D.metX sc_Plan_contents_of (fun _ _ _ _ _ _ us hl => match us, hl with | [_, _], _ => rfl) (fun vs H Q E h => ?_) fun f cdv A outer s H vs Q E hr h => ?_
  · obtain ⟨p, es, y, rfl, _⟩ := h; rfl
  · obtain ⟨p, es, y, rfl, pl, k⟩ := h
    obtain ⟨⟨dx, l, e1, e2⟩, at_, ok⟩ := id pl
    refine ⟨_, (pss_cons (ps_expr (pe_mS M_check PT.cl (takes_of rfl rfl rfl rfl) hr (by decide) (pv 0) (pa_cons (pv 1) pa_nil)))
      (pss_one (ps_ret (pe_ix (r := rIxT K) ix_tup (pe_ix (r := rIxL K) ix_list (pe_fld (pv 0) rfl) (pv 1) (fun _ _ => rfl)) pe_int (fun _ _ => rfl))))), ?_⟩
    refine ⟨_, rfl, p, dx, _, rfl, e1, get_eno _ (by decide +kernel), _, rfl, p, es, y, rfl, pl, ?_⟩
    rcases k with ⟨n, e, rfl, en, q⟩ | ⟨bad, k⟩
    · refine .inl ⟨n, rfl, (List.getElem?_eq_some_iff.mp en).1, ?_⟩
      refine ⟨_, rfl, p, PC, dx, _, .ref l, rfl, e1, PT.cl, PT.ne, get_e l, _, rfl, l, _, _, .ref e.t, rfl, rfl, SqL.of e2, atI_nat (j := n) (ed_get en), e.t, _, _, _, rfl, rfl, SqT.of (at_ e (List.mem_of_getElem? en)).tp, atI_nat (j := 1) rfl, q⟩
    · exact .inr ⟨bad, fun d H' nd s2 ed => k d H' nd s2 ed⟩
abbrev s_Plan_moments : Stmt := inClass (top 38) 9
theorem sc_Plan_moments : FnScope ["self", "moment", "_"] ["self"] (defScope s_Plan_moments) := ⟨rfl, rfl, rfl, by decide +kernel, rfl, by decide +kernel, by decide +kernel⟩
theorem ok_pmoms (D : MetK K PC "moments" "Plan.moments" s_Plan_moments) (PT : PTx K mg PC) : Met P w K mg base CX0 1 PC "moments" (spPMoms PC C) := by
  refine D.met sc_Plan_moments (fun _ _ _ _ _ _ us hl => match us, hl with | [_], _ => rfl) (fun vs H Q E h => ?_) fun f cdv A outer s H vs Q E hr h => ?_
  · obtain ⟨p, es, rfl, _⟩ := h; rfl
  · obtain ⟨p, es, rfl, ⟨⟨dx, l, e1, e2⟩, at_, ok⟩, k⟩ := h
    refine ⟨_, (pss_one (ps_ret (pe_lc (own := [("moment", 1), ("_", 2)]) (g := gTup K 2 (gCons (gName 1) (gCons (gName 2) gNil))) (by rfl) sc_Plan_moments.nd (pi_list (pe_fld (pv 0) rfl)) (blkOk_by (own := [("moment", 1), ("_", 2)]) (N := ["self", "moment", "_"]) (sc := defScope s_Plan_moments) (by decide +kernel)) (fun _ _ _ _ _ => pg_tup rfl (pgs_cons (pg_name (i := 1) sc_Plan_moments.nd rfl (Or.inl rfl)) (pgs_cons (pg_name (i := 2) sc_Plan_moments.nd rfl (Or.inl rfl)) pgs_nil))) (fun _ _ _ _ _ => pts_nil) (fun _ _ _ _ _ => (pv 1))))), ?_⟩
    refine ⟨_, rfl, p, PC, dx, _, .ref l, rfl, e1, PT.cl, PT.ne, get_e l, l, rfl, ⟨_, SqL.of e2⟩, fun D nD => ?_⟩
    refine lc_list (K := K) (a := l) (xs := es.map Ed.v) (fun i H' => H' D = some (.lst ((es.take i).map fun e => V.int e.m)) ∧ Same H H') ⟨upd_same, same_new nD⟩ (fun i H' _ ⟨_, s⟩ => SqL.of (s _ _ e2)) ?_ ?_
    · rintro i y H' hy ⟨eD, sP⟩
      obtain ⟨e, ee, rfl⟩ := ed_at hy
      have ae := (at_ e (List.mem_of_getElem? ee)).same sP
      have tk : es.take (i + 1) = es.take i ++ [e] := by rw [List.take_succ, ee]; rfl
      have pt : (es.take i).length ≤ es.length := List.length_take_le' i es
      have n7 := ok.n7
      refine ⟨e.t, _, rfl, SqT.of ae.tp, rfl, _, _, rfl, _, _, rfl, rfl, rfl, K54C.yes_if ?_⟩
      refine ⟨_, rfl, _, eD, by rw [List.length_map, sizeLine_eq]; omega, by rw [upd_same, tk, List.map_append]; rfl, same_mut sP nD⟩
    · rintro H' ⟨eD, sP⟩
      rw [show (es.map Ed.v).length = es.length by rw [List.length_map], List.take_length] at eD
      exact k D H' nD sP eD
end
end K54
namespace K54
open PySem PySem.Spec PyProof.Rows L2 Jg
local macro_rules | `(tactic| walk_at "rd1") => `(tactic| (first
  | refine ⟨_, rfl, ?_⟩
  | refine ⟨_, _, rfl, rfl, ?_⟩
  | refine ⟨_, _, rfl, ?_⟩
  | refine ⟨rfl, ?_⟩
  | (refine ⟨show (0 : Int) < _ by omega, ?_⟩)
  | (refine ⟨Or.inl ⟨by omega, by omega⟩, ?_⟩)
  | (refine ⟨Or.inr ⟨by omega, by omega⟩, ?_⟩)
  | (refine ⟨(⟨by decide, by decide, by decide⟩ : CPow _ _), ?_⟩)
  | refine Or.inl ⟨_, rfl, ?_⟩
  | refine Or.inr ⟨_, rfl, ?_⟩
  | fail "rd"))
local macro_rules | `(tactic| walk_at "rd") => `(tactic| repeat' walk_at "rd1")
/-! ### spans of a plan -/
def spanR (ms : List Int) (n : Nat) (d : Int) : Int × Int := K54R.mkR (ms.getD n 0) (if n + 1 = ms.length then none else some (ms.getD (n + 1) 0 + d))
theorem ms_at {ms : List Int} {n : Nat} (h : n < ms.length) : ms[n]? = some (ms.getD n 0) := by
  rw [List.getD_eq_getElem?_getD, List.getElem?_eq_getElem h]; rfl
theorem ms_vat {ms : List Int} {n : Nat} (h : n < ms.length) : (ms.map V.int)[n]? = some (V.int (ms.getD n 0)) := by rw [List.getElem?_map, ms_at h]; rfl
theorem ms_mem {ms : List Int} {n : Nat} (h : n < ms.length) : ms.getD n 0 ∈ ms := List.mem_of_getElem? (ms_at h)
def spSpan (RC : Addr) : Sp := fun vs H Q _ => ∃ l ms n d, vs = [.ref l, .int (n : Nat), .int d] ∧ H l = some (.lst (ms.map V.int)) ∧ n < ms.length ∧ (∀ m ∈ ms, K54R.Bnd m ∧ K54R.Bnd (m + d)) ∧
  ∀ x H', H x = none → Same H H' → K54R.RAt RC H' x (spanR ms n d) → Q (.ref x) H'
def spHSpan (RC : Addr) : Sp := fun vs H Q _ => ∃ l ms n d, vs = [.ref l, .int (n : Nat), .int d] ∧ H l = some (.lst (ms.map V.int)) ∧ n < ms.length ∧ (∀ m ∈ ms, K54R.Bnd m ∧ K54R.Bnd (m + (d - 2))) ∧
  ∀ x H', H x = none → Same H H' → K54R.RAt RC H' x (spanR ms n (d - 2)) → Q (.ref x) H'
section
variable {P : Program} {w : World} {K : PySem.W.Frag} {mg : Str → Option Value} {base : Heap} {C PC CU CE RC FC KC : Addr}
abbrev s_span : Stmt := top 50
theorem sc_span : FnScope ["moments", "number", "delay"] ["moments", "number", "delay"] (defScope s_span) := ⟨rfl, rfl, rfl, by decide +kernel, rfl, by decide +kernel, by decide +kernel⟩
theorem ok_span (D : DefK K mg "span" s_span) (T : TxP K mg) (M_Range : Mak P w K mg base CX0 3 "Range" RC (K54R.spInit RC)) : Cal P w K mg base CX0 5 "span" (spSpan RC) := by
  refine D.cal sc_span (fun _ _ _ _ _ _ us hl => match us, hl with | [_, _, _], _ => rfl) (fun vs H Q E h => ?_) fun f cdv A outer s H vs Q E hr h => ?_
  · obtain ⟨l, ms, n, d, rfl, _⟩ := h; rfl
  · obtain ⟨l, ms, n, d, rfl, el, lt, bd, k⟩ := h
    refine ⟨_, (pss_cons (ps_if (pt_cmpR op_eq (pe_op op_add (pv 1) pe_int) (pe_callB call_len_seq (by rfl) T.b_len (by decide +kernel) (pa_cons (pv 0) pa_nil)) (nomark _)) (pss_one (ps_ret (pe_mk M_Range hr (by decide) rfl (pa_cons (pe_ix (r := rIxL K) ix_list (pv 0) (pv 1) (fun _ _ => rfl)) (pa_cons pe_non pa_nil))))) pss_nil)
      (pss_one (ps_ret (pe_mk M_Range hr (by decide) rfl (pa_cons (pe_ix (r := rIxL K) ix_list (pv 0) (pv 1) (fun _ _ => rfl)) (pa_cons (pe_op op_add (pe_ix (r := rIxL K) ix_list (pv 0) (pe_op op_add (pv 1) pe_int) (fun _ _ => rfl)) (pv 2)) pa_nil)))))), ?_⟩
    have SL : SqL K H l (ms.map V.int) := SqL.of el
    have B1 := (bd _ (ms_mem lt)).1
    refine ⟨_, rfl, _, _, rfl, rfl, _, rfl, l, _, rfl, .inl SL, rfl, _, rfl, ?_⟩
    have ln : ((ms.map V.int).length : Int) = (ms.length : Int) := by rw [List.length_map]
    rw [ln]
    by_cases c : n + 1 = ms.length
    · have e : spanR ms n d = K54R.mkR (ms.getD n 0) none := by unfold spanR; rw [if_pos c]
      refine iteTe (decide_eq_true (by show V.int ((n : Int) + 1) = V.int (ms.length : Int); rw [← c]; rfl)) ?_
      refine ⟨_, rfl, _, rfl, l, _, _, _, rfl, rfl, SL, atI_nat (j := n) (ms_vat lt), fun x dx nx ndx nex => ⟨x, dx, _, none, rfl, upd_same, B1, trivial, fun H1 R kp => ⟨rfl, ?_⟩⟩⟩
      exact k x H1 nx (Same.made nx ndx kp) (e ▸ R)
    · have e : spanR ms n d = K54R.mkR (ms.getD n 0) (some (ms.getD (n + 1) 0 + d)) := by unfold spanR; rw [if_neg c]
      have lt2 : n + 1 < ms.length := by omega
      have B2 := (bd _ (ms_mem lt2)).2
      refine iteFe (decide_eq_false fun z => c (by have := V.int.inj z; omega)) ?_
      refine ⟨_, rfl, _, rfl, l, _, _, _, rfl, rfl, SL, atI_nat (j := n) (ms_vat lt), ?_⟩
      refine ⟨_, rfl, _, rfl, _, _, rfl, rfl, l, _, _, _, rfl, rfl, SL, atI_nat (j := n + 1) (ms_vat lt2), _, rfl, _, _, rfl, rfl, fun x dx nx ndx nex => ⟨x, dx, _, some _, rfl, upd_same, B1, B2, fun H1 R kp => ⟨rfl, ?_⟩⟩⟩
      exact k x H1 nx (Same.made nx ndx kp) (e ▸ R)
abbrev s_held_span : Stmt := top 51
theorem sc_held_span : FnScope ["moments", "number", "lateness"] ["moments", "number", "lateness"] (defScope s_held_span) := ⟨rfl, rfl, rfl, by decide +kernel, rfl, by decide +kernel, by decide +kernel⟩
theorem ok_hspan (D : DefK K mg "held_span" s_held_span) (G_span : Cal P w K mg base CX0 5 "span" (spSpan RC)) : Cal P w K mg base CX0 6 "held_span" (spHSpan RC) := by
  refine D.cal sc_held_span (fun _ _ _ _ _ _ us hl => match us, hl with | [_, _, _], _ => rfl) (fun vs H Q E h => ?_) fun f cdv A outer s H vs Q E hr h => ?_
  · obtain ⟨l, ms, n, d, rfl, _⟩ := h; rfl
  · obtain ⟨l, ms, n, d, rfl, el, lt, bd, k⟩ := h
    refine ⟨_, (pss_one (ps_ret (pe_c G_span hr (by decide) rfl (pa_cons (pv 0) (pa_cons (pv 1) (pa_cons (pe_op op_sub (pv 2) pe_int) pa_nil)))))), ?_⟩
    exact ⟨_, rfl, _, rfl, _, rfl, _, _, rfl, rfl, l, ms, n, d - 2, rfl, el, lt, bd, k⟩
end
/-! ### the roles that the calls ask for -/
structure Cl where
  t : Addr
  z : Str
  a : Str
  b : Str
  i : Int
def Cl.v (c : Cl) : List V := K54F.callT c.z c.a c.b c.i
structure FlAt (FC KC : Addr) (H : Hp) (f : Addr) (ks : K54F.Ks) (cl : List Cl) : Prop where
  ex : ∃ d c, K54F.FltAt FC KC H f d c ks (cl.map fun q => V.ref q.t)
  tp : ∀ q ∈ cl, H q.t = some (.tup (Cl.v q))
  wd : K54F.WdKs ks
  fed : K54F.Fed ks
theorem FlAt.same {FC KC : Addr} {H H' : Hp} {f : Addr} {ks : K54F.Ks} {cl : List Cl} (h : FlAt FC KC H f ks cl) (s : Same H H') : FlAt FC KC H' f ks cl :=
  let ⟨d, c, a⟩ := h.ex
  ⟨⟨d, c, a.keep s⟩, fun q hq => s _ _ (h.tp q hq), h.wd, h.fed⟩
/-- the first role of a call that is not in the list -/
def missR (cl : List Cl) (zs : List Str) : Option Str := (cl.find? fun q => !decide (q.z ∈ zs)).map (·.z)
theorem missR_at {cl : List Cl} {zs : List Str} {i : Nat} {q : Cl} (h : cl[i]? = some q) (b : ∀ p ∈ cl.take i, p.z ∈ zs) (n : q.z ∉ zs) : missR cl zs = some q.z := by
  obtain ⟨lt, e⟩ := List.getElem?_eq_some_iff.mp h
  have f : cl.find? (fun q => !decide (q.z ∈ zs)) = some q := by
    refine List.find?_eq_some_iff_append.mpr ⟨by rw [decide_eq_false n]; rfl, cl.take i, cl.drop (i + 1), ?_, fun a ha => by rw [decide_eq_true (b a ha)]; rfl⟩
    rw [← e, ← List.drop_eq_getElem_cons lt, List.take_append_drop]
  unfold missR
  rw [f]; rfl
theorem missR_no {cl : List Cl} {zs : List Str} (b : ∀ p ∈ cl, p.z ∈ zs) : missR cl zs = none := by
  unfold missR
  rw [List.find?_eq_none.mpr fun q hq => by rw [decide_eq_true (b q hq)]; decide]; rfl
def spChR (C FC KC CU : Addr) : Sp := fun vs H Q E => ∃ x c S f ks cl, vs = [.ref x, .ref f] ∧ K54C.CAt S C H x c ∧ FlAt FC KC H f ks cl ∧
  ((missR cl (c.us.map (·.z)) = none ∧ ∀ H', Same H H' → Q .non H') ∨ ∃ z, missR cl (c.us.map (·.z)) = some z ∧ ∀ d H', H d = none → Same H H' → H' d = some (.xd [(("name" : Str), .str z)]) → E (.ref CU) (some d) H')
section
variable {P : Program} {w : World} {K : PySem.W.Frag} {mg : Str → Option Value} {base : Heap} {C PC CU CE RC FC KC : Addr}
abbrev s_check_roles : Stmt := top 23
theorem sc_check_roles : FnScope ["contents", "fleet", "role", "_"] ["contents", "fleet"] (defScope s_check_roles) := ⟨rfl, rfl, rfl, by decide +kernel, rfl, by decide +kernel, by decide +kernel⟩
theorem ok_chr (D : DefK K mg "check_roles" s_check_roles) (J : K54C.CTx K mg C) (TF : K54F.FTx K mg FC) (M_calls : Met P w K mg base CX0 1 FC "calls" (K54F.spCalls FC KC)) (P_roles : Prp P w K mg base CX0 1 C "roles" (K54C.spLst C fun c => c.us.map (·.z)))
    (G_UnknownName : ExnB P w K mg base 1 "UnknownName" CU (spX CU "name")) : Cal P w K mg base (L2.CX P w) 3 "check_roles" (spChR C FC KC CU) := by
  refine D.calX sc_check_roles (fun _ _ _ _ _ _ us hl => match us, hl with | [_, _], _ => rfl) (fun vs H Q E h => ?_) fun f0 cdv A outer s H vs Q E hr h => ?_
  · obtain ⟨x, c, S, f, ks, cl, rfl, _⟩ := h; rfl
  · obtain ⟨x, c, S, f, ks, cl, rfl, at_, fl, k⟩ := h
    refine ⟨_, (pss_one (ps_for (passes_of rfl) rfl (pi_list (pe_mz M_calls TF.cl hr (by decide) (pv 1))) (pg_tup rfl (pgs_cons (pg_name (i := 2) sc_check_roles.nd rfl (Or.inl rfl)) (pgs_cons (pg_name (i := 3) sc_check_roles.nd rfl (Or.inl rfl)) (pgs_cons (pg_name (i := 3) sc_check_roles.nd rfl (Or.inl rfl)) (pgs_cons (pg_name (i := 3) sc_check_roles.nd rfl (Or.inl rfl)) pgs_nil))))) (pss_one (ps_if (pt_cmpR (r := rIn K true) op_notIn_seq (pv 2) (pe_p P_roles J.cl hr (by decide) (pv 0)) rfl) (pss_one (ps_raise rfl (takes_of rfl rfl rfl rfl) (pmk_b G_UnknownName hr (by decide) rfl (pa_cons (pv 2) pa_nil)))) pss_nil)))), ?_⟩
    obtain ⟨d, cc, fa⟩ := id fl.ex
    obtain ⟨dx, ef⟩ := id fa.at_
    refine ⟨_, rfl, f, dx, _, rfl, ef, K54F.get_fno _ _ (by decide +kernel) (by decide +kernel), f, d, cc, ks, _, rfl, fa, fun l nl => ?_⟩
    have s1 := same_new (o := .lst (cl.map fun q => V.ref q.t)) nl
    have el : upd H l (.lst (cl.map fun q => V.ref q.t)) l = _ := upd_same
    generalize upd H l (.lst (cl.map fun q => V.ref q.t)) = H1 at *
    refine ⟨l, rfl, ⟨_, SqL.of el⟩, for_list (K := K) (a := l) (xs := cl.map fun q => V.ref q.t) (fun i σ' H' => (∃ v2 v3, σ' = [some (.ref x), some (.ref f), v2, v3]) ∧ Same H1 H' ∧ ∀ q ∈ cl.take i, q.z ∈ c.us.map (·.z)) ⟨⟨_, _, rfl⟩, .refl _, fun _ h => nomatch h⟩ (fun i _ H' _ ⟨_, s', _⟩ => SqL.of (s' _ _ el)) ?_ ?_⟩
    · rintro i y σ' H' hy ⟨⟨v2, v3, rfl⟩, s', bf⟩
      obtain ⟨q, eq, rfl⟩ : ∃ q, cl[i]? = some q ∧ y = .ref q.t := by
        rw [List.getElem?_map] at hy
        cases c9 : cl[i]? with
        | none => rw [c9] at hy; cases hy
        | some q => rw [c9] at hy; exact ⟨q, rfl, (Option.some.inj hy).symm⟩
      have s2 := s1.trans s'
      refine ⟨q.t, _, rfl, SqT.of (s2 _ _ (fl.tp q (List.mem_of_getElem? eq))), rfl, _, _, rfl, _, _, rfl, _, _, rfl, _, _, rfl, rfl, ?_⟩
      obtain ⟨⟨dx2, d2, v, sg, ex, _⟩, _⟩ := id at_
      refine ⟨_, rfl, _, rfl, x, dx2, _, rfl, s2 _ _ ex, x, c, S, rfl, at_.same s2, fun p np => ?_⟩
      have s3 := same_new (o := .lst ((c.us.map (·.z)).map V.str)) np
      refine ask_notInS (xs := c.us.map (·.z)) (SqL.of upd_same) ⟨_, rfl, ?_⟩
      by_cases m : q.z ∈ c.us.map (·.z)
      · rw [decide_eq_true m]
        refine iteF ⟨⟨_, _, rfl⟩, s'.trans s3, fun p hp => ?_⟩
        rw [show cl.take (i + 1) = cl.take i ++ [q] by rw [List.take_succ, eq]; rfl] at hp
        rcases List.mem_append.mp hp with hp | hp
        · exact bf p hp
        · obtain rfl := List.mem_singleton.mp hp
          exact m
      · rw [decide_eq_false m]
        have ms := missR_at eq bf m
        rcases k with ⟨no, _⟩ | ⟨z, e, k⟩
        · rw [ms] at no; cases no
        · rw [ms] at e
          cases e
          exact iteT ⟨_, rfl, x_read fun d3 nd => k d3 _ (s2.free (s3.free nd)) ((s2.trans s3).trans (same_new nd)) upd_same⟩
    · rintro σ' H' ⟨_, s', bf⟩
      rw [show (cl.map fun q => V.ref q.t).length = cl.length by rw [List.length_map], List.take_length] at bf
      rcases k with ⟨_, k⟩ | ⟨z, e, _⟩
      · exact k _ (s1.trans s')
      · rw [missR_no bf] at e; cases e
end
end K54
namespace K54
open PySem PySem.Spec PyProof.Rows L2 Jg
local macro_rules | `(tactic| walk_at "rd1") => `(tactic| (first
  | refine ⟨_, rfl, ?_⟩
  | refine ⟨_, _, rfl, rfl, ?_⟩
  | refine ⟨_, _, rfl, ?_⟩
  | refine ⟨rfl, ?_⟩
  | (refine ⟨show (0 : Int) < _ by omega, ?_⟩)
  | (refine ⟨Or.inl ⟨by omega, by omega⟩, ?_⟩)
  | (refine ⟨Or.inr ⟨by omega, by omega⟩, ?_⟩)
  | (refine ⟨(⟨by decide, by decide, by decide⟩ : CPow _ _), ?_⟩)
  | refine Or.inl ⟨_, rfl, ?_⟩
  | refine Or.inr ⟨_, rfl, ?_⟩
  | fail "rd"))
local macro_rules | `(tactic| walk_at "rd") => `(tactic| repeat' walk_at "rd1")
/-! ### when a kind holds an edition -/
theorem rng_yes {p : Nat → Bool} {i : Nat} (h : p i = true) : (List.range (i + 1)).filter p = (List.range i).filter p ++ [i] := by
  rw [List.range_succ, List.filter_append, List.filter_cons_of_pos h, List.filter_nil]
theorem rng_no {p : Nat → Bool} {i : Nat} (h : p i = false) : (List.range (i + 1)).filter p = (List.range i).filter p := by
  rw [List.range_succ, List.filter_append, List.filter_cons_of_neg (by rw [h]; decide), List.filter_nil, List.append_nil]
def lateK (ks : K54F.Ks) (z : Str) : Int := K54F.lateF ks (K54F.chainF ks z)
def mos (es : List Ed) : List Int := es.map (·.m)
def SpOk (es : List Ed) (la : Int) : Prop := ∀ m ∈ mos es, K54R.Bnd m ∧ K54R.Bnd (m + (la - 2))
end K54
namespace K54
open PySem PySem.Spec PyProof.Rows L2 Jg
local macro_rules | `(tactic| walk_at "rd1") => `(tactic| (first
  | refine ⟨_, rfl, ?_⟩
  | refine ⟨_, _, rfl, rfl, ?_⟩
  | refine ⟨_, _, rfl, ?_⟩
  | refine ⟨rfl, ?_⟩
  | (refine ⟨show (0 : Int) < _ by omega, ?_⟩)
  | (refine ⟨Or.inl ⟨by omega, by omega⟩, ?_⟩)
  | (refine ⟨Or.inr ⟨by omega, by omega⟩, ?_⟩)
  | (refine ⟨(⟨by decide, by decide, by decide⟩ : CPow _ _), ?_⟩)
  | refine Or.inl ⟨_, rfl, ?_⟩
  | refine Or.inr ⟨_, rfl, ?_⟩
  | fail "rd"))
local macro_rules | `(tactic| walk_at "rd") => `(tactic| repeat' walk_at "rd1")
/-! ### kinds, calls and moments are drawn -/
open K54C (StA SameB spDr spCh use_choose spWords Wd)
theorem use_drawB {H : Hp} {p : Addr} {n : Int} {Q : VK} {E : XK} (st : StA H p) (h1 : 0 < n) (h2 : n.natAbs < 2 ^ 300) (k : ∀ v H', 0 ≤ v → v < n → StA H' p → SameB p H H' → Q (.int v) H') : spDr [.ref p, .int n] H Q E := by
  unfold spDr
  obtain ⟨a, b, e, ha⟩ := st
  exact ⟨p, a, b, n, rfl, e, ha, h1, h2, fun v a' b' v0 v1 h => k v _ v0 v1 ⟨a', b', upd_same, h⟩ (SameB.refl _ _).mut⟩
def S0 : Int := 4 * 10 ^ 30
theorem s0_big {n : Int} (h0 : 0 < n) (h : n ≤ S0) : n.natAbs < 2 ^ 300 := by
  have b : (n.natAbs : Int) ≤ S0 := by omega
  have c : S0 < ((2 ^ 300 : Nat) : Int) := by decide +kernel
  exact Int.ofNat_lt.mp (Int.lt_of_le_of_lt b c)
structure KRow where
  t : Addr
  z : Str
  r : K54F.Kd
def KrAt (H : Hp) (k : KRow) : Prop := H k.t = some (.tup [.str k.z, .int k.r.g, K54F.oV k.r.a, K54F.sV k.r.s])
/-- rows that a fleet takes -/
structure KrOk (kr : List KRow) : Prop where
  nd : (kr.map (·.z)).Nodup
  wd : ∀ k ∈ kr, Wd k.z
  g : ∀ k ∈ kr, 1 ≤ k.r.g ∧ k.r.g ≤ 10 ^ 30
  a : ∀ k ∈ kr, ∀ a, k.r.a = some a → 0 ≤ a ∧ a ≤ 10 ^ 30
  s : ∀ i k z, kr[i]? = some k → k.r.s = some z → z ∈ (kr.take i).map (·.z)
structure MsOk (ms : List Int) : Prop where
  lo : ∀ m ∈ ms, 0 ≤ m ∧ m ≤ 10 ^ 40
  inc : ∀ (i : Nat) (a b : Int), ms[i]? = some a → ms[i + 1]? = some b → a < b
structure MsI (ms : List Int) : Prop where
  lo : ∀ (j : Nat) (m : Int), ms[j]? = some m → 0 ≤ m ∧ m ≤ 5 + j * S0
  inc : ∀ (i : Nat) (a b : Int), ms[i]? = some a → ms[i + 1]? = some b → a < b
theorem MsI.one {m : Int} (h0 : 0 ≤ m) (h1 : m ≤ 5) : MsI [m] := by
  refine ⟨fun j x e => ?_, fun i a b e1 e2 => ?_⟩
  · match j, e with
    | 0, e => cases Option.some.inj e; exact ⟨h0, by omega⟩
  · simp at e2
theorem MsI.more {ini : List Int} {m x : Int} (h : MsI (ini ++ [m])) (lt : m < x) (le : x ≤ m + S0) : MsI (ini ++ [m] ++ [x]) := by
  have ln : (ini ++ [m]).length = ini.length + 1 := by rw [List.length_append]; rfl
  have em : (ini ++ [m])[ini.length]? = some m := by rw [List.getElem?_append_right (Nat.le_refl _)]; simp
  have bm := h.lo _ _ em
  refine ⟨fun j y e => ?_, fun i a b e1 e2 => ?_⟩
  · by_cases c : j < (ini ++ [m]).length
    · rw [List.getElem?_append_left c] at e; exact h.lo j y e
    · have l2 := (List.getElem?_eq_some_iff.mp e).1
      rw [List.length_append] at l2
      have ej : j = ini.length + 1 := by have : j < (ini ++ [m]).length + 1 := l2; omega
      subst ej
      rw [← ln, List.getElem?_append_right (Nat.le_refl _), Nat.sub_self] at e
      cases Option.some.inj e
      refine ⟨by omega, ?_⟩
      have z : ((ini.length + 1 : Nat) : Int) * S0 = (ini.length : Int) * S0 + S0 := by rw [Int.natCast_add, Int.add_mul]; rw [show ((1 : Nat) : Int) = 1 from rfl, Int.one_mul]
      rw [z]; omega
  · by_cases c : i + 1 < (ini ++ [m]).length
    · rw [List.getElem?_append_left c] at e2
      rw [List.getElem?_append_left (by omega)] at e1
      exact h.inc i a b e1 e2
    · have l2 := (List.getElem?_eq_some_iff.mp e2).1
      rw [List.length_append] at l2
      have ei : i = ini.length := by have : i + 1 < (ini ++ [m]).length + 1 := l2; omega
      subst ei
      rw [List.getElem?_append_left (by omega), em] at e1
      rw [← ln, List.getElem?_append_right (Nat.le_refl _), Nat.sub_self] at e2
      cases Option.some.inj e1
      cases Option.some.inj e2
      exact lt
theorem MsI.ok {ms : List Int} (h : MsI ms) (l : ms.length ≤ 7) : MsOk ms := ⟨fun m hm => by
  obtain ⟨j, lt, e⟩ := List.getElem_of_mem hm
  have z := h.lo j m (by rw [List.getElem?_eq_getElem lt, e])
  have a : (j : Int) * S0 ≤ 7 * S0 := Int.mul_le_mul_of_nonneg_right (by omega) (by decide +kernel)
  have b : 5 + 7 * S0 ≤ 10 ^ 40 := by decide +kernel
  exact ⟨z.1, by omega⟩, h.inc⟩
def Ms0 (ms : List Int) : Prop := MsOk ms ∧ ∀ m ∈ ms, m ≤ 5 * 10 ^ 31
theorem MsI.ok0 {ms : List Int} (h : MsI ms) (l : ms.length ≤ 7) : Ms0 ms := ⟨h.ok l, fun m hm => by
  obtain ⟨j, lt, e⟩ := List.getElem_of_mem hm
  have z := h.lo j m (by rw [List.getElem?_eq_getElem lt, e])
  have a : (j : Int) * S0 ≤ 7 * S0 := Int.mul_le_mul_of_nonneg_right (by omega) (by decide +kernel)
  have b : 5 + 7 * S0 ≤ 5 * 10 ^ 31 := by decide +kernel
  omega⟩
@[irreducible] def spMoments : Sp := fun vs H Q _ => ∃ (p : Addr) (n : Nat) (st : Int), vs = [.ref p, .int (n : Nat), .int st] ∧ StA H p ∧ 1 ≤ n ∧ n ≤ 7 ∧ 0 < st ∧ st ≤ 3 * 10 ^ 30 ∧
  ∀ (l : Addr) (ms : List Int) (H' : Hp), H l = none → l ≠ p → ms.length = n → Ms0 ms → H' l = some (.lst (ms.map V.int)) → StA H' p → SameB p H H' → Q (.ref l) H'
theorem KrOk.nil : KrOk [] := ⟨List.nodup_nil, (fun _ h => nomatch h), (fun _ h => nomatch h), (fun _ h => nomatch h), fun _ _ _ h => by simp at h⟩
theorem KrOk.more {kr : List KRow} {k : KRow} (h : KrOk kr) (nd : k.z ∉ kr.map (·.z)) (wd : Wd k.z) (g : 1 ≤ k.r.g ∧ k.r.g ≤ 10 ^ 30) (a : ∀ a, k.r.a = some a → 0 ≤ a ∧ a ≤ 10 ^ 30) (sr : ∀ z, k.r.s = some z → z ∈ kr.map (·.z)) : KrOk (kr ++ [k]) := by
  have m1 : ∀ {q : KRow}, q ∈ kr ++ [k] → q ∈ kr ∨ q = k := fun hq => (List.mem_append.mp hq).imp id List.mem_singleton.mp
  refine ⟨?_, fun q hq => ?_, fun q hq => ?_, fun q hq => ?_, fun i q z e hs => ?_⟩
  · rw [List.map_append]
    exact List.nodup_append.mpr ⟨h.nd, by simp, fun a ha b hb e => nd (by rw [← List.mem_singleton.mp (show b ∈ [k.z] from hb), ← e]; exact ha)⟩
  · rcases m1 hq with hq | rfl
    · exact h.wd q hq
    · exact wd
  · rcases m1 hq with hq | rfl
    · exact h.g q hq
    · exact g
  · rcases m1 hq with hq | rfl
    · exact h.a q hq
    · exact a
  · by_cases c : i < kr.length
    · rw [List.getElem?_append_left c] at e
      rw [List.take_append_of_le_length (by omega)]
      exact h.s i q z e hs
    · have l2 := (List.getElem?_eq_some_iff.mp e).1
      rw [List.length_append] at l2
      have ei : i = kr.length := by have : i < kr.length + 1 := l2; omega
      subst ei
      rw [List.getElem?_append_right (Nat.le_refl _), Nat.sub_self] at e
      cases Option.some.inj e
      rw [List.take_append_of_le_length (Nat.le_refl _), List.take_length]
      exact sr z hs
@[irreducible] def spKinds : Sp := fun vs H Q _ => ∃ (p : Addr) (n : Nat) (sp ag : Int), vs = [.ref p, .int (n : Nat), .int sp, .int ag] ∧ StA H p ∧ n ≤ 5 ∧ 0 < sp ∧ sp ≤ 10 ^ 30 ∧ 0 < ag ∧ ag ≤ 10 ^ 30 ∧
  ∀ (l : Addr) (kr : List KRow) (H' : Hp), H l = none → l ≠ p → kr.length = n → KrOk kr → H' l = some (.lst (kr.map fun k => V.ref k.t)) → (∀ k ∈ kr, KrAt H' k) → StA H' p → SameB p H H' → Q (.ref l) H'
theorem frefs_no {α : Type} {g : α → Addr} {ws : List α} (a b : Int) : HO.lst (ws.map fun k => V.ref (g k)) ≠ .lst [.int a, .int b] := fun z => by
  injection z with z
  cases ws with
  | nil => cases z
  | cons x r => injection z with z1 z2; cases z1
theorem KrAt.keep {H H' : Hp} {p : Addr} {k : KRow} (h : KrAt H k) (st : StA H p) (s : SameB p H H') : KrAt H' k := s _ _ h (st.no h fun _ _ z => nomatch z)
structure ClOk (parts names : List Str) (cl : List Cl) : Prop where
  z : ∀ q ∈ cl, q.z ∈ parts
  ab : ∀ q ∈ cl, q.a ∈ names ∧ q.b ∈ names
  i : ∀ q ∈ cl, 0 ≤ q.i ∧ q.i < 10 ^ 30
def ClAt (H : Hp) (q : Cl) : Prop := H q.t = some (.tup q.v)
theorem ClAt.keep {H H' : Hp} {p : Addr} {k : Cl} (h : ClAt H k) (st : StA H p) (s : SameB p H H') : ClAt H' k := s _ _ h (st.no h fun _ _ z => nomatch z)
theorem ClAt.mut {H H' : Hp} {f : Addr} {xs : List V} {o : HO} {k : Cl} (h : ClAt H k) (ef : H f = some (.lst xs)) (s : Same H H') : ClAt (upd H' f o) k := by
  have n : k.t ≠ f := fun z => by unfold ClAt at h; rw [z, ef] at h; cases h
  unfold ClAt
  rw [upd_ne n]
  exact s _ _ h
theorem KrAt.mut {H H' : Hp} {f : Addr} {xs : List V} {o : HO} {k : KRow} (h : KrAt H k) (ef : H f = some (.lst xs)) (s : Same H H') : KrAt (upd H' f o) k := by
  have n : k.t ≠ f := fun z => by unfold KrAt at h; rw [z, ef] at h; cases h
  unfold KrAt
  rw [upd_ne n]
  exact s _ _ h
@[irreducible] def spCallsD (K : PySem.W.Frag) : Sp := fun vs H Q _ => ∃ (p : Addr) (n : Nat) (l1 l2 : Addr) (parts : List Str) (kr : List KRow) (kp : Int), vs = [.ref p, .int (n : Nat), .ref l1, .ref l2, .int kp] ∧ StA H p ∧ n ≤ 6 ∧ H l1 = some (.lst (parts.map V.str)) ∧ 0 < parts.length ∧ parts.length ≤ 100 ∧
  H l2 = some (.lst (kr.map fun k => V.ref k.t)) ∧ (∀ k ∈ kr, KrAt H k) ∧ 0 < kr.length ∧ kr.length ≤ 100 ∧ 0 < kp ∧ kp ≤ 10 ^ 30 ∧
  ∀ (l : Addr) (cl : List Cl) (H' : Hp), H l = none → l ≠ p → cl.length = n → ClOk parts (kr.map (·.z)) cl → H' l = some (.lst (cl.map fun q => V.ref q.t)) → (∀ q ∈ cl, ClAt H' q) → StA H' p → SameB p H H' → Q (.ref l) H'
section
variable {P : Program} {w : World} {K : PySem.W.Frag} {mg : Str → Option Value} {base : Heap}
abbrev s_law_moments : Stmt := top 98
theorem sc_law_moments : FnScope ["stream", "count", "steps", "found", "turn"] ["stream", "count", "steps"] (defScope s_law_moments) := ⟨rfl, rfl, rfl, by decide +kernel, rfl, by decide +kernel, by decide +kernel⟩
theorem ok_moments (D : DefK K mg "_law_moments" s_law_moments) (T : TxP K mg) (G_law_draw : Cal P w K mg base CX0 1 "_law_draw" spDr) : Cal P w K mg base CX0 2 "_law_moments" spMoments := by
  refine D.cal sc_law_moments (fun _ _ _ _ _ _ us hl => match us, hl with | [_, _, _], _ => rfl) (fun vs H Q E h => ?_) fun f cdv A outer s H vs Q E hr h => ?_
  · unfold spMoments at h; obtain ⟨p, n, st, rfl, _⟩ := h; rfl
  · unfold spMoments at h; obtain ⟨p, n, st, rfl, sA, n1, n7, st0, st1, k⟩ := h
    refine ⟨_, (pss_cons (ps_set (i := 3) sc_law_moments.nd rfl (Or.inl rfl) (pe_lst (pa_cons (pe_c G_law_draw hr (by decide) rfl (pa_cons (pv 0) (pa_cons pe_int pa_nil))) pa_nil)))
      (pss_cons (ps_for PassesOwn.never rfl (pi_range1 (by rfl) T.b_range (pa_cons (pe_op op_sub (pv 1) pe_int) pa_nil)) (pg_name (i := 4) sc_law_moments.nd rfl (Or.inl rfl)) (pss_one (ps_expr (pe_bm F.plainAttrs_list F.slot_list_append F.type_list_append mt_append (pv 3) (pa_cons (pe_op op_add (pe_op op_add (pe_ix (r := rIxL K) ix_list (pv 3) (pe_un un_neg pe_int) (fun _ _ => rfl)) pe_int) (pe_c G_law_draw hr (by decide) rfl (pa_cons (pv 0) (pa_cons (pv 2) pa_nil)))) pa_nil)))))
      (pss_one (ps_ret (pv 3))))), ?_⟩
    have s3b : (3 * 10 ^ 30 : Int) + 1 ≤ S0 := by decide +kernel
    have stB : st.natAbs < 2 ^ 300 := s0_big st0 (Int.le_trans st1 (by decide +kernel))
    refine ⟨_, rfl, use_drawB sA (by decide) (by decide +kernel) fun v0 H1 a0 a1 st1 s1 => ⟨by show 1 ≤ sizeLine; decide, fun f nf => ?_⟩⟩
    have fp : f ≠ p := st1.ne nf
    have ef : upd H1 f (.lst [.int v0]) f = some (.lst [.int v0]) := upd_same
    have sf := same_new (o := .lst [.int v0]) nf
    have nfH : H f = none := s1.free nf fp
    have st2 := st1.keep sf
    have s2 := s1.trans (SameB.of sf)
    generalize upd H1 f (.lst [.int v0]) = H2 at *
    refine ⟨_, rfl, _, _, rfl, rfl, _, rfl, by omega, by omega, ?_⟩
    refine for_range (lo := 0) (fun i sg Hi => ∃ (v4 : Option V) (ini : List Int) (m : Int), sg = [some (.ref p), some (.int n), some (.int st), some (.ref f), v4] ∧ StA Hi p ∧ SameB p H Hi ∧ Hi f = some (.lst ((ini ++ [m]).map V.int)) ∧ ini.length = i ∧ MsI (ini ++ [m])) ⟨_, [], v0, rfl, st2, s2, ef, rfl, MsI.one a0 (by omega)⟩ ?_ ?_
    · rintro i sg Hi hi ⟨v4, ini, m, rfl, sti, si, efi, il, im⟩
      refine ⟨_, rfl, .inl ⟨rfl, _, .inl (.inl efi)⟩, _, rfl, _, rfl, f, _, _, _, rfl, rfl, SqL.of efi, by rw [List.map_append]; exact atI_last _ _, _, _, rfl, rfl, _, rfl, _, rfl, use_drawB sti st0 stB fun v Hb b0 b1 stb sb => ⟨_, _, rfl, rfl, f, _, _, rfl, rfl, sb _ _ efi fp, by rw [List.length_map, List.length_append, il, sizeLine_eq]; show i + 1 < _; omega, ?_⟩⟩
      refine ⟨_, ini ++ [m], m + 1 + v, rfl, ?_, fun q o e nn => by rw [upd_ne (ne_of_none e nfH)]; exact sb _ _ (si _ _ e nn) nn, by rw [upd_same]; exact congrArg (fun z => some (HO.lst z)) (List.map_append (f := V.int) (l₁ := ini ++ [m]) (l₂ := [m + 1 + v])).symm, by rw [List.length_append, il]; rfl, im.more (by omega) (by omega)⟩
      obtain ⟨a, b, e, h⟩ := stb
      exact ⟨a, b, by rw [upd_ne fp.symm]; exact e, h⟩
    · rintro sg Hi ⟨v4, ini, m, rfl, sti, si, efi, il, im⟩
      exact ⟨_, rfl, k f (ini ++ [m]) Hi nfH fp (by rw [List.length_append, il]; show _ + 1 = n; omega) (im.ok0 (by rw [List.length_append, il]; show _ + 1 ≤ 7; omega)) efi sti si⟩
abbrev s_law_kinds : Stmt := top 92
theorem sc_law_kinds : FnScope ["stream", "count", "spans", "ages", "at", "names", "found", "span_v", "aged"] ["stream", "count", "spans", "ages"] (defScope s_law_kinds) := ⟨rfl, rfl, rfl, by decide +kernel, rfl, by decide +kernel, by decide +kernel⟩
theorem ok_kinds (D : DefK K mg "_law_kinds" s_law_kinds) (T : TxP K mg) (G_law_draw : Cal P w K mg base CX0 1 "_law_draw" spDr) (G_law_choose : Cal P w K mg base CX0 2 "_law_choose" (spCh K)) (G_law_words : Cal P w K mg base CX0 3 "_law_words" spWords) : Cal P w K mg base CX0 4 "_law_kinds" spKinds := by
  refine D.cal sc_law_kinds (fun _ _ _ _ _ _ us hl => match us, hl with | [_, _, _, _], _ => rfl) (fun vs H Q E h => ?_) fun f cdv A outer s H vs Q E hr h => ?_
  · unfold spKinds at h; obtain ⟨p, n, sp, ag, rfl, _⟩ := h; rfl
  · unfold spKinds at h; obtain ⟨p, n, sp, ag, rfl, sA, n5, sp0, sp1, ag0, ag1, k⟩ := h
    refine ⟨_, (pss_cons (ps_par (i := 5) (j := 6) (by rfl) sc_law_kinds.nd rfl rfl (by decide) rfl rfl (pa_cons (pe_c G_law_words hr (by decide) rfl (pa_cons (pv 0) (pa_cons pe_int pa_nil))) (pa_cons (pe_lst pa_nil) pa_nil)) (by rfl))
      (pss_cons (ps_for PassesOwn.never rfl (pi_range1 (by rfl) T.b_range (pa_cons (pv 1) pa_nil)) (pg_name (i := 4) sc_law_kinds.nd rfl (Or.inl rfl)) (pss_cons (ps_par (i := 7) (j := 8) (by rfl) sc_law_kinds.nd rfl rfl (by decide) rfl rfl (pa_cons (pe_op op_add pe_int (pe_c G_law_draw hr (by decide) rfl (pa_cons (pv 0) (pa_cons (pv 2) pa_nil)))) (pa_cons pe_non pa_nil)) (by rfl))
      (C8.pss_cut (ps_if (pt_cmpR op_eq (pe_c G_law_draw hr (by decide) rfl (pa_cons (pv 0) (pa_cons pe_int pa_nil))) pe_int (nomark _)) (pss_one (ps_set (i := 8) sc_law_kinds.nd rfl (Or.inl rfl) (pe_c G_law_draw hr (by decide) rfl (pa_cons (pv 0) (pa_cons (pv 3) pa_nil))))) pss_nil)
      (pss_one (ps_expr (pe_bm F.plainAttrs_list F.slot_list_append F.type_list_append mt_append (pv 6) (pa_cons (pe_tup (pa_cons (pe_ix (r := rIxL K) ix_list (pv 5) (pv 4) (fun _ _ => rfl)) (pa_cons (pv 7) (pa_cons (pv 8) (pa_cons (pe_c G_law_choose hr (by decide) rfl (pa_cons (pv 0) (pa_cons (pe_op op_cat (pe_lst (pa_cons pe_non pa_nil)) (pe_slice sl_list (pv 5) po_none (po_some (pv 4)))) pa_nil))) pa_nil))))) pa_nil)))))))
      (pss_one (ps_ret (pv 6))))), ?_⟩
    have spB : sp.natAbs < 2 ^ 300 := s0_big sp0 (Int.le_trans sp1 (by decide +kernel))
    have agB : ag.natAbs < 2 ^ 300 := s0_big ag0 (Int.le_trans ag1 (by decide +kernel))
    refine ⟨_, rfl, p, 5, rfl, by decide, by decide, sA, fun ln ws H1 nl lp wl wd wn el st1 s1 => ⟨by show 0 ≤ sizeLine; decide, fun f nf => ⟨_, _, rfl, ?_⟩⟩⟩
    have fp : f ≠ p := st1.ne nf
    have fl : f ≠ ln := fun z => by rw [z, el] at nf; cases nf
    have nfH : H f = none := s1.free nf fp
    have w5 : ws.length = 5 := wl
    have sf := same_new (o := .lst []) nf
    refine ⟨_, rfl, n, rfl, by omega, by omega, ?_⟩
    rw [Int.toNat_natCast]
    refine for_range (lo := 0) (fun i sg Hi => ∃ (v4 v7 v8 : Option V) (kr : List KRow), sg = [some (.ref p), some (.int n), some (.int sp), some (.int ag), v4, some (.ref ln), some (.ref f), v7, v8] ∧ StA Hi p ∧ SameB p H1 Hi ∧ Hi f = some (.lst (kr.map fun q => V.ref q.t)) ∧ kr.length = i ∧ kr.map (·.z) = ws.take i ∧ KrOk kr ∧ ∀ q ∈ kr, KrAt Hi q)
      ⟨_, _, _, [], rfl, st1.keep sf, SameB.of sf, upd_same, rfl, rfl, KrOk.nil, fun _ h => nomatch h⟩ ?_ ?_
    · rintro i sg Hi hi ⟨v4, v7, v8, kr, rfl, sti, si, efi, il, kz, ko, ka⟩
      refine ⟨_, rfl, _, rfl, use_drawB sti sp0 spB fun g Ha g0 g1 sta sa => ⟨_, _, rfl, rfl, _, _, rfl, ?_⟩⟩
      refine ⟨fun σ' H2 => ∃ a : Option Int, σ' = [some (.ref p), some (.int n), some (.int sp), some (.int ag), some (.int (0 + (i : Int))), some (.ref ln), some (.ref f), some (.int (1 + g)), some (K54F.oV a)] ∧ StA H2 p ∧ SameB p Hi H2 ∧ ∀ x, a = some x → 0 ≤ x ∧ x < ag, ?_, ?_⟩
      · refine ⟨_, rfl, use_drawB sta (by decide) (by decide +kernel) fun v Hb v0 v1 stb sb => ⟨rfl, _, rfl, ?_⟩⟩
        by_cases c : v = 0
        · refine iteTe (decide_eq_true (by rw [c])) ⟨_, rfl, _, rfl, use_drawB stb ag0 agB fun x Hc x0 x1 stc sc => ⟨some x, rfl, stc, sa.trans (sb.trans sc), fun y e => by cases e; exact ⟨x0, x1⟩⟩⟩
        · exact iteFe (decide_eq_false fun e => c (V.int.inj e)) ⟨none, rfl, stb, sa.trans sb, fun y e => nomatch e⟩
      · rintro σ' H2 ⟨a, rfl, st2, s2, aB⟩
        have lp' := sti.neS (si _ _ el lp)
        have ew := s2 _ _ (si _ _ el lp) lp
        have ef2 := s2 _ _ efi fp
        have wi : i < ws.length := by omega
        obtain ⟨z, ez⟩ : ∃ z, ws[i]? = some z := ⟨_, List.getElem?_eq_getElem wi⟩
        have wv : (ws.map V.str)[i]? = some (.str z) := by rw [List.getElem?_map, ez]; rfl
        have wlen : (ws.map V.str).length = 5 := by rw [List.length_map, w5]
        refine ⟨_, rfl, .inl ⟨rfl, _, .inl (.inl ef2)⟩, _, rfl, _, rfl, ln, _, _, _, rfl, rfl, SqL.of ew, by rw [Int.zero_add]; exact atI_nat (j := i) wv, _, rfl, _, rfl, _, rfl, by show 1 ≤ sizeLine; decide, fun a1 n1 => ?_⟩
        have g1' := same_new (o := .lst [.non]) n1
        refine ⟨_, rfl, _, rfl, (i : Int), by rw [Int.zero_add], ln, _, rfl, SqL.of (g1' _ _ ew), fun a2 n2 => ?_⟩
        rw [K54C.cut_low i (by omega)]
        have g2 := same_new (o := .lst ((ws.map V.str).take i)) n2
        have e1' : upd (upd H2 a1 (.lst [.non])) a2 (.lst ((ws.map V.str).take i)) a1 = some (.lst [.non]) := g2 _ _ upd_same
        refine ⟨a1, a2, _, _, rfl, rfl, e1', upd_same, by rw [List.length_take, wlen, sizeLine_eq]; show 1 + min i 5 ≤ _; omega, fun a3 n3 => ?_⟩
        have g3 := same_new (o := .lst ([.non] ++ (ws.map V.str).take i)) n3
        have g13 := (g1'.trans g2).trans g3
        have st3 := st2.keep g13
        have a3p : a3 ≠ p := (st2.keep (g1'.trans g2)).ne n3
        have e3 : upd (upd (upd H2 a1 (.lst [.non])) a2 (.lst ((ws.map V.str).take i))) a3 (.lst ([.non] ++ (ws.map V.str).take i)) a3 = some (.lst ([.non] ++ (ws.map V.str).take i)) := upd_same
        generalize upd (upd (upd H2 a1 (.lst [.non])) a2 (.lst ((ws.map V.str).take i))) a3 (.lst ([.non] ++ (ws.map V.str).take i)) = H3 at *
        refine use_choose st3 (SqL.of e3) a3p (by rw [List.length_append]; show 0 < 1 + _; omega) (by rw [List.length_append, List.length_take, wlen]; show 1 + min i 5 < 1000; omega) fun x4 H4 hx4 st4 s4 => ?_
        obtain ⟨sr, esr, hsr⟩ : ∃ sr : Option Str, x4 = K54F.sV sr ∧ ∀ y, sr = some y → y ∈ ws.take i := by
          rcases List.mem_cons.mp hx4 with rfl | h
          · exact ⟨none, rfl, fun y e => nomatch e⟩
          · rw [← List.map_take] at h
            obtain ⟨y, hy, rfl⟩ := List.mem_map.mp h
            exact ⟨some y, rfl, fun y2 e => by cases e; exact hy⟩
        subst esr
        refine ⟨by show 4 ≤ sizeLine; decide, fun t nt => ?_⟩
        have g5 := same_new (o := .tup [.str z, .int (1 + g), K54F.oV a, K54F.sV sr]) nt
        have ef4 := s4 _ _ (g13 _ _ ef2) fp
        have s24 : SameB p Hi H4 := s2.trans ((SameB.of g13).trans s4)
        have tf : t ≠ f := fun q => by rw [q, ef4] at nt; cases nt
        refine ⟨f, _, _, rfl, rfl, g5 _ _ ef4, by rw [List.length_map, il, sizeLine_eq]; omega, ?_⟩
        have tk : ws.take (i + 1) = ws.take i ++ [z] := by rw [List.take_succ, ez]; rfl
        refine ⟨_, _, _, kr ++ [⟨t, z, ⟨1 + g, a, sr⟩⟩], rfl, ?_, fun q o e nn => ?_, by rw [upd_same, List.map_append]; rfl, by rw [List.length_append, il]; rfl, by rw [List.map_append, kz, tk]; rfl, ko.more ?_ (wd z (List.mem_of_getElem? ez)) ⟨by show (1 : Int) ≤ 1 + g; omega, by show 1 + g ≤ 10 ^ 30; omega⟩ (fun x e => by have := aB x e; omega) (fun y e => by rw [kz]; exact hsr y e), fun q hq => ?_⟩
        · obtain ⟨a', b', e, h⟩ := st4.keep g5
          exact ⟨a', b', by rw [upd_ne fp.symm]; exact e, h⟩
        · have nff : q ≠ f := fun z9 => by rw [z9, nf] at e; cases e
          rw [upd_ne nff]
          exact g5 _ _ (s24 _ _ (si _ _ e nn) nn)
        · rw [kz]
          show z ∉ ws.take i
          intro m
          have nd2 := wn.sublist (List.take_sublist (i + 1) ws)
          rw [tk] at nd2
          exact (List.nodup_append.mp nd2).2.2 z m z (List.mem_singleton.mpr rfl) rfl
        · rcases List.mem_append.mp hq with hq | hq
          · exact ((ka q hq).keep sti s24).mut ef4 g5
          · rw [List.mem_singleton.mp hq]
            show upd _ f _ t = _
            rw [upd_ne tf]
            exact upd_same
    · rintro sg Hi ⟨v4, v7, v8, kr, rfl, sti, si, efi, il, kz, ko, ka⟩
      exact ⟨_, rfl, k f kr Hi nfH fp il ko efi ka sti (s1.trans si)⟩
abbrev s_law_calls : Stmt := top 93
theorem sc_law_calls : FnScope ["stream", "count", "parts", "kinds", "keeps", "found", "turn", "one", "other"] ["stream", "count", "parts", "kinds", "keeps"] (defScope s_law_calls) := ⟨rfl, rfl, rfl, by decide +kernel, rfl, by decide +kernel, by decide +kernel⟩
theorem ok_calls (D : DefK K mg "_law_calls" s_law_calls) (T : TxP K mg) (G_law_draw : Cal P w K mg base CX0 1 "_law_draw" spDr) (G_law_choose : Cal P w K mg base CX0 2 "_law_choose" (spCh K)) : Cal P w K mg base CX0 3 "_law_calls" (spCallsD K) := by
  refine D.cal sc_law_calls (fun _ _ _ _ _ _ us hl => match us, hl with | [_, _, _, _, _], _ => rfl) (fun vs H Q E h => ?_) fun f cdv A outer s H vs Q E hr h => ?_
  · unfold spCallsD at h; obtain ⟨p, n, l1, l2, parts, kr, kp, rfl, _⟩ := h; rfl
  · unfold spCallsD at h; obtain ⟨p, n, l1, l2, parts, kr, kp, rfl, sA, n6, e1, pa0, pa1, e2, krA, kr0, kr1, kp0, kp1, k⟩ := h
    refine ⟨_, (pss_cons (ps_set (i := 5) sc_law_calls.nd rfl (Or.inl rfl) (pe_lst pa_nil))
      (pss_cons (ps_for PassesOwn.never rfl (pi_range1 (by rfl) T.b_range (pa_cons (pv 1) pa_nil)) (pg_name (i := 6) sc_law_calls.nd rfl (Or.inl rfl)) (pss_cons (ps_par (i := 7) (j := 8) (by rfl) sc_law_calls.nd rfl rfl (by decide) rfl rfl (pa_cons (pe_ix (r := rIxT K) ix_tup (pe_c G_law_choose hr (by decide) rfl (pa_cons (pv 0) (pa_cons (pv 3) pa_nil))) pe_int (fun _ _ => rfl)) (pa_cons (pe_ix (r := rIxT K) ix_tup (pe_c G_law_choose hr (by decide) rfl (pa_cons (pv 0) (pa_cons (pv 3) pa_nil))) pe_int (fun _ _ => rfl)) pa_nil)) (by rfl))
      (pss_one (ps_expr (pe_bm F.plainAttrs_list F.slot_list_append F.type_list_append mt_append (pv 5) (pa_cons (pe_tup (pa_cons (pe_c G_law_choose hr (by decide) rfl (pa_cons (pv 0) (pa_cons (pv 2) pa_nil))) (pa_cons (pv 7) (pa_cons (pv 8) (pa_cons (pe_c G_law_draw hr (by decide) rfl (pa_cons (pv 0) (pa_cons (pv 4) pa_nil))) pa_nil))))) pa_nil))))))
      (pss_one (ps_ret (pv 5))))), ?_⟩
    have l2p := sA.no e2 frefs_no
    have l1p := sA.neS e1
    have kpB : kp.natAbs < 2 ^ 300 := s0_big kp0 (Int.le_trans kp1 (by decide +kernel))
    refine ⟨by show 0 ≤ sizeLine; decide, fun f nf => ?_⟩
    have fp : f ≠ p := sA.ne nf
    refine ⟨_, rfl, n, rfl, by omega, by omega, ?_⟩
    rw [Int.toNat_natCast]
    refine for_range (lo := 0) (fun i sg Hi => ∃ (v6 v7 v8 : Option V) (cl : List Cl), sg = [some (.ref p), some (.int n), some (.ref l1), some (.ref l2), some (.int kp), some (.ref f), v6, v7, v8] ∧ StA Hi p ∧ SameB p H Hi ∧ Hi f = some (.lst (cl.map fun q => V.ref q.t)) ∧ cl.length = i ∧ ClOk parts (kr.map (·.z)) cl ∧ ∀ q ∈ cl, ClAt Hi q)
      ⟨_, _, _, [], rfl, sA.keep (same_new nf), SameB.of (same_new nf), upd_same, rfl, ⟨(fun _ h => nomatch h), (fun _ h => nomatch h), fun _ h => nomatch h⟩, fun _ h => nomatch h⟩ ?_ ?_
    · rintro i sg Hi hi ⟨v6, v7, v8, cl, rfl, sti, si, efi, il, co, ca⟩
      refine ⟨_, rfl, _, rfl, use_choose sti (SqL.of (si _ _ e2 l2p)) l2p (by rw [List.length_map]; exact kr0) (by rw [List.length_map]; omega) fun x1 Ha hx1 sta sa => ?_⟩
      obtain ⟨k1, hk1, rfl⟩ := List.mem_map.mp hx1
      have a1 := (((krA k1 hk1).keep sA si).keep sti sa)
      refine ⟨k1.t, _, _, _, rfl, rfl, SqT.of a1, atI_nat (j := 0) rfl, ?_⟩
      have sia := si.trans sa
      refine ⟨_, rfl, _, rfl, use_choose sta (SqL.of (sia _ _ e2 l2p)) l2p (by rw [List.length_map]; exact kr0) (by rw [List.length_map]; omega) fun x2 Hb hx2 stb sb => ?_⟩
      obtain ⟨k2, hk2, rfl⟩ := List.mem_map.mp hx2
      have sib := sia.trans sb
      have a2 := (krA k2 hk2).keep sA sib
      refine ⟨k2.t, _, _, _, rfl, rfl, SqT.of a2, atI_nat (j := 0) rfl, _, _, rfl, ?_⟩
      have efb := sb _ _ (sa _ _ efi fp) fp
      refine ⟨_, rfl, .inl ⟨rfl, _, .inl (.inl efb)⟩, _, rfl, _, rfl, use_choose stb (SqL.of (sib _ _ e1 l1p)) l1p (by rw [List.length_map]; exact pa0) (by rw [List.length_map]; omega) fun x3 Hc hx3 stc sc => ?_⟩
      obtain ⟨z3, hz3, rfl⟩ := List.mem_map.mp hx3
      refine ⟨_, rfl, _, rfl, _, rfl, _, rfl, use_drawB stc kp0 kpB fun i4 Hd i0 i1 std sd => ⟨by show 4 ≤ sizeLine; decide, fun t nt => ?_⟩⟩
      have s4 := (sa.trans sb).trans (sc.trans sd)
      have efd := s4 _ _ efi fp
      have g1 := same_new (o := .tup [.str z3, .str k1.z, .str k2.z, .int i4]) nt
      refine ⟨f, _, _, rfl, rfl, g1 _ _ efd, by rw [List.length_map, il, sizeLine_eq]; omega, ?_⟩
      have tf : t ≠ f := fun z => by rw [z, efd] at nt; cases nt
      refine ⟨_, _, _, cl ++ [⟨t, z3, k1.z, k2.z, i4⟩], rfl, ?_, fun q o e nn => ?_, by rw [upd_same, List.map_append]; rfl, by rw [List.length_append, il]; rfl, ⟨fun q hq => ?_, fun q hq => ?_, fun q hq => ?_⟩, fun q hq => ?_⟩
      · obtain ⟨a, b, e, h⟩ := std.keep g1
        exact ⟨a, b, by rw [upd_ne fp.symm]; exact e, h⟩
      · rw [upd_ne (ne_of_none e nf)]
        exact g1 _ _ (s4 _ _ (si _ _ e nn) nn)
      · rcases List.mem_append.mp hq with hq | hq
        · exact co.z q hq
        · rw [List.mem_singleton.mp hq]; exact hz3
      · rcases List.mem_append.mp hq with hq | hq
        · exact co.ab q hq
        · rw [List.mem_singleton.mp hq]; exact ⟨List.mem_map_of_mem hk1, List.mem_map_of_mem hk2⟩
      · rcases List.mem_append.mp hq with hq | hq
        · exact co.i q hq
        · rw [List.mem_singleton.mp hq]; exact ⟨i0, Int.lt_of_lt_of_le i1 kp1⟩
      · rcases List.mem_append.mp hq with hq | hq
        · exact ((ca q hq).keep sti s4).mut efd g1
        · rw [List.mem_singleton.mp hq]
          show upd _ f _ t = _
          rw [upd_ne tf]
          exact upd_same
    · rintro sg Hi ⟨v6, v7, v8, cl, rfl, sti, si, efi, il, co, ca⟩
      exact ⟨_, rfl, k f cl Hi nf fp il co efi ca sti si⟩
end
end K54
namespace K54
open PySem PySem.Spec PyProof.Rows L2 Jg
local macro_rules | `(tactic| walk_at "rd1") => `(tactic| (first
  | refine ⟨_, rfl, ?_⟩
  | refine ⟨_, _, rfl, rfl, ?_⟩
  | refine ⟨_, _, rfl, ?_⟩
  | refine ⟨rfl, ?_⟩
  | (refine ⟨show (0 : Int) < _ by omega, ?_⟩)
  | (refine ⟨Or.inl ⟨by omega, by omega⟩, ?_⟩)
  | (refine ⟨Or.inr ⟨by omega, by omega⟩, ?_⟩)
  | (refine ⟨(⟨by decide, by decide, by decide⟩ : CPow _ _), ?_⟩)
  | refine Or.inl ⟨_, rfl, ?_⟩
  | refine Or.inr ⟨_, rfl, ?_⟩
  | fail "rd"))
local macro_rules | `(tactic| walk_at "rd") => `(tactic| repeat' walk_at "rd1")
theorem mk_same {C : Addr} {H : Hp} {x dx : Addr} (nx : H x = none) (ndx : H dx = none) (nex : dx ≠ x) : Same H (upd (upd H dx (.own x)) x (.ins C dx [])) := same_new' (same_new ndx) (by rw [upd_ne (Ne.symm nex)]; exact nx)
/-! ### the plan of the law -/
open K54C (Td TdAt TdsAt TdR Ww CtIs CAt CtOk Ct UAt hid hid_in hid_get hid_same hid_mut)
theorem cat_hide {S : Addr → Prop} {C D x : Addr} {H : Hp} {c : Ct} (h : CAt S C H x c) (n : ∀ q, S q → q ≠ D) : CAt (fun _ => True) C (hid [D] H) x c := by
  have m : ∀ {q : Addr}, S q → q ∉ [D] := fun sq z => n _ sq (List.mem_singleton.mp z)
  obtain ⟨⟨dx, d, v, s, e1, e2, e3, e4, s1, s2, s3, s4⟩, us⟩ := h
  exact ⟨⟨dx, d, v, s, hid_in e1 (m s1), hid_in e2 (m s2), hid_in e3 (m s3), hid_in e4 (m s4), trivial, trivial, trivial, trivial⟩, fun r hr => ⟨hid_in (us r hr).tp (m (us r hr).st), hid_in (us r hr).ls (m (us r hr).sa), trivial, trivial⟩⟩
theorem hid_mono {M : List Addr} {H H' : Hp} (s : Same H H') : Same (hid M H) (hid M H') := fun q o e => hid_in (s _ _ (hid_get e).1) (hid_get e).2
@[irreducible] def spLPlan (PC C : Addr) : Sp := fun vs H Q _ => ∃ (lm lt : Addr) (ms : List Int) (qs : List Addr) (ds : List Td) (parts keys hands : List Str), vs = [.ref lm, .ref lt] ∧ H lm = some (.lst (ms.map V.int)) ∧ H lt = some (.lst (qs.map V.ref)) ∧ MsOk ms ∧ TdsAt parts keys hands H qs ds ∧ Ww parts keys hands ∧ qs.length = ms.length ∧ 1 ≤ ms.length ∧ ms.length ≤ 7 ∧
  ∀ (p : Addr) (es : List Ed) (H' : Hp), H p = none → Same H H' → PlAt PC C H' p es → mos es = ms → (∀ (i : Nat) (e : Ed), es[i]? = some e → ∃ d, ds[i]? = some d ∧ CtIs d e.c) → Q (.ref p) H'
section
variable {P : Program} {w : World} {K : PySem.W.Frag} {mg : Str → Option Value} {base : Heap} {C PC : Addr}
abbrev s_law_plan : Stmt := top 100
theorem sc_law_plan : FnScope ["moments", "tolds", "moment", "told"] ["moments", "tolds"] (defScope s_law_plan) := ⟨rfl, rfl, rfl, by decide +kernel, rfl, by decide +kernel, by decide +kernel⟩
theorem ok_lplan (D : DefK K mg "_law_plan" s_law_plan) (T : TxP K mg) (M_Plan : Mak P w K mg base CX0 6 "Plan" PC (spPInit PC C)) (G_law_contents : Cal P w K mg base CX0 9 "_law_contents" (K54C.spCon C)) : Cal P w K mg base CX0 10 "_law_plan" (spLPlan PC C) := by
  refine D.cal sc_law_plan (fun _ _ _ _ _ _ us hl => match us, hl with | [_, _], _ => rfl) (fun vs H Q E h => ?_) fun f cdv A outer s H vs Q E hr h => ?_
  · unfold spLPlan at h; obtain ⟨lm, lt, ms, qs, ds, parts, keys, hands, rfl, _⟩ := h; rfl
  · unfold spLPlan at h; obtain ⟨lm, lt, ms, qs, ds, parts, keys, hands, rfl, em, et, mok, tds, ww, ql, n1, n7, k⟩ := h
    refine ⟨_, (pss_one (ps_ret (pe_mk M_Plan hr (by decide) rfl (pa_cons (pe_lc (own := [("moment", 2), ("told", 3)]) (g := gTup K 2 (gCons (gName 2) (gCons (gName 3) gNil))) (by rfl) sc_law_plan.nd (RZ.pi_zipA (by rfl) T.b_zip (pa_cons (pv 0) (pa_cons (pv 1) pa_nil))) (blkOk_by (own := [("moment", 2), ("told", 3)]) (N := ["moments", "tolds", "moment", "told"]) (sc := defScope s_law_plan) (by decide +kernel)) (fun _ _ _ _ _ => pg_tup rfl (pgs_cons (pg_name (i := 2) sc_law_plan.nd rfl (Or.inl rfl)) (pgs_cons (pg_name (i := 3) sc_law_plan.nd rfl (Or.inl rfl)) pgs_nil))) (fun _ _ _ _ _ => pts_nil) (fun _ _ _ _ _ => (pe_tup (pa_cons (pv 2) (pa_cons (pe_c G_law_contents hr (by decide) rfl (pa_cons (pv 3) pa_nil)) pa_nil))))) pa_nil)))), ?_⟩
    refine ⟨_, rfl, _, rfl, lm, lt, ms.map V.int, qs.map V.ref, rfl, .inl ⟨SqL.of em, SqL.of et, fun D nD => ?_⟩⟩
    have nm : ms.length = min (ms.map V.int).length (qs.map V.ref).length := by rw [List.length_map, List.length_map]; omega
    refine lc_it (walk_zip nm) (fun i H' => ∃ es : List Ed, H' D = some (.lst (es.map Ed.v)) ∧ mos es = ms.take i ∧ (∀ (j : Nat) (e : Ed), es[j]? = some e → ∃ d, ds[j]? = some d ∧ CtIs d e.c) ∧ (∀ e ∈ es, EdAt C (hid [D] H') e) ∧ Same H H')
      ⟨[], upd_same, rfl, (fun _ _ h => by simp at h), (fun _ h => nomatch h), same_new nD⟩ (fun i H' _ ⟨_, _, _, _, _, s⟩ => ⟨SqL.of (s _ _ em), SqL.of (s _ _ et)⟩) ?_ ?_
    · rintro i x H' H2 hi ⟨es, eD, eM, cI, eA, s'⟩ ⟨T0, x1, x2, rfl, nT, rfl, ex1, ex2⟩
      have ex1 : (ms.map V.int)[i]? = some x1 := ex1
      have ex2 : (qs.map V.ref)[i]? = some x2 := ex2
      rw [List.getElem?_map] at ex1 ex2
      obtain ⟨m, hm, rfl⟩ : ∃ m, ms[i]? = some m ∧ x1 = .int m := by
        cases c : ms[i]? with
        | none => rw [c] at ex1; cases ex1
        | some m => rw [c] at ex1; exact ⟨m, rfl, (Option.some.inj ex1).symm⟩
      obtain ⟨q, hq, rfl⟩ : ∃ q, qs[i]? = some q ∧ x2 = .ref q := by
        cases c : qs[i]? with
        | none => rw [c] at ex2; cases ex2
        | some q => rw [c] at ex2; exact ⟨q, rfl, (Option.some.inj ex2).symm⟩
      obtain ⟨d, hd, td, tg⟩ := tds.at_ hq
      have gT := same_new (o := .tup [.int m, .ref q]) nT
      refine ⟨T0, _, rfl, SqT.of upd_same, rfl, _, _, rfl, _, _, rfl, rfl, rfl, K54C.yes_if ?_⟩
      have eD2 := gT _ _ eD
      have sT := s'.trans gT
      generalize upd H' T0 (.tup [.int m, .ref q]) = H3 at *
      refine ⟨_, rfl, _, rfl, q, d, rfl, td.same sT, tg.r ww, fun z c H5 ca cok cis s5 => ⟨by show 2 ≤ sizeLine; decide, fun t nt => ?_⟩⟩
      have g6 := same_new (o := .tup [.int m, .ref z]) nt
      have sall := (gT.trans s5).trans g6
      have eD6 := g6 _ _ (s5 _ _ eD2)
      have tD : t ≠ D := fun z9 => by rw [z9, s5 _ _ eD2] at nt; cases nt
      have el : es.length = i := by
        have z1 := congrArg List.length eM
        unfold mos at z1
        rw [List.length_map, List.length_take] at z1
        omega
      refine ⟨_, eD6, by rw [List.length_map, el, sizeLine_eq]; omega, es ++ [⟨m, t, z, c⟩], by rw [upd_same, List.map_append]; rfl, ?_, fun j e he => ?_, fun e he => ?_, same_mut (s'.trans sall) nD⟩
      · unfold mos at eM ⊢
        rw [List.map_append, eM, List.take_succ, hm]; rfl
      · by_cases cj : j < es.length
        · rw [List.getElem?_append_left cj] at he; exact cI j e he
        · have l2 := (List.getElem?_eq_some_iff.mp he).1
          rw [List.length_append] at l2
          have ej : j = es.length := by have : j < es.length + 1 := l2; omega
          subst ej
          rw [List.getElem?_append_right (Nat.le_refl _), Nat.sub_self] at he
          cases Option.some.inj he
          exact ⟨d, by rw [el]; exact hd, cis⟩
      · rw [hid_mut]
        rcases List.mem_append.mp he with he | he
        · exact (eA e he).same (hid_mono sall)
        · obtain rfl := List.mem_singleton.mp he
          refine ⟨hid_in upd_same fun z9 => tD (List.mem_singleton.mp z9), (cat_hide ca fun q9 nq z9 => ?_).same (hid_mono g6), cok⟩
          rw [z9, eD2] at nq; cases nq
    · rintro H3 ⟨es, eD, eM, cI, eA, s3⟩
      rw [List.take_length] at eM
      have el : es.length = ms.length := by rw [← eM]; unfold mos; rw [List.length_map]
      have eA' : ∀ e ∈ es, EdAt C H3 e := fun e he => (eA e he).same hid_same
      have at_m : ∀ {i : Nat} {e : Ed}, es[i]? = some e → ms[i]? = some e.m := fun {i e} he => by rw [← eM]; unfold mos; rw [List.getElem?_map, he]; rfl
      have LMb : (10 ^ 40 : Int) ≤ LM := by decide +kernel
      have roles : ∀ e ∈ es, e.c.us.map (·.z) = srtW parts := fun e he => by
        obtain ⟨i, he'⟩ := List.getElem?_of_mem he
        obtain ⟨d, hd, cis⟩ := cI i e he'
        have lq : i < qs.length := by rw [ql, ← el]; exact (List.getElem?_eq_some_iff.mp he').1
        obtain ⟨d', hd', _, tg⟩ := tds.at_ (List.getElem?_eq_getElem lq)
        rw [hd] at hd'
        cases hd'
        rw [cis.zs, tg.zs]
      have ok : EdsOk es := ⟨by omega, by omega, fun e he => by
          obtain ⟨i, he'⟩ := List.getElem?_of_mem he
          have := mok.lo _ (List.mem_of_getElem? (at_m he'))
          exact ⟨this.1, by omega⟩, fun i a b ha hb => mok.inc i _ _ (at_m ha) (at_m hb), fun a ha b hb => by rw [roles a ha, roles b hb]⟩
      intro x dx nx ndx nex
      refine ⟨x, dx, D, es, H3, rfl, upd_same, mk_same nx ndx nex, nx, eD, eA', ok, fun H' es' pl ek sH => ⟨rfl, ?_⟩⟩
      refine k x es' H' (s3.free nx) (s3.trans sH) pl ?_ ?_
      · rw [← eM]
        unfold mos
        have z := congrArg (List.map (·.1)) ek
        rw [List.map_map, List.map_map] at z
        exact z
      · intro i e he
        have z : (es'.map Ed.k)[i]? = some (Ed.k e) := by rw [List.getElem?_map, he]; rfl
        rw [ek, List.getElem?_map] at z
        cases c : es[i]? with
        | none => rw [c] at z; cases z
        | some q =>
          rw [c] at z
          obtain ⟨d, hd, cis⟩ := cI i q c
          have e3 : q.c = e.c := congrArg (·.2.2) (Option.some.inj z)
          exact ⟨d, hd, e3 ▸ cis⟩
end
end K54
namespace K54
open PySem PySem.Spec PyProof.Rows L2 Jg
local macro_rules | `(tactic| walk_at "rd1") => `(tactic| (first
  | refine ⟨_, rfl, ?_⟩
  | refine ⟨_, _, rfl, rfl, ?_⟩
  | refine ⟨_, _, rfl, ?_⟩
  | refine ⟨rfl, ?_⟩
  | (refine ⟨show (0 : Int) < _ by omega, ?_⟩)
  | (refine ⟨Or.inl ⟨by omega, by omega⟩, ?_⟩)
  | (refine ⟨Or.inr ⟨by omega, by omega⟩, ?_⟩)
  | (refine ⟨(⟨by decide, by decide, by decide⟩ : CPow _ _), ?_⟩)
  | refine Or.inl ⟨_, rfl, ?_⟩
  | refine Or.inr ⟨_, rfl, ?_⟩
  | fail "rd"))
local macro_rules | `(tactic| walk_at "rd") => `(tactic| repeat' walk_at "rd1")
theorem pe_mk0 {X : Cx} {k j : Nat} {C : Addr} {x : Str} {sp : Sp} {p pos : Pos} (c : Mak X.prog X.w X.K X.mg X.base CX0 k x C sp) (hr : Room j X.A) (hk : k + 1 ≤ j) (hg : Gl X x) (hdb : (x == ("__debug__" : Str)) = false := by decide) :
    PE X (.Call (.Name x p) [] [] pos) (tMake C sp [] E0 tNil) := by
  obtain ⟨f, fd, ps, F, a, i, kp, b⟩ := c.init.ex
  exact pe_make0 ⟨c.mks, a, i, c.kp⟩ F (hr.mono hk) hg c.mg_ b .nil pass0 hdb
/-! ### the fleet of the law -/
def KOrd (ks : K54F.Ks) : Prop := ∀ (i : Nat) (e : Str × K54F.Kd × Addr) (z : Str), ks[i]? = some e → e.2.1.s = some z → z ∈ (ks.take i).map (·.1)
theorem kd_at {ks : K54F.Ks} {i : Nat} {e : Str × K54F.Kd × Addr} (nd : (ks.map (·.1)).Nodup) (h : ks[i]? = some e) : K54F.kdOf ks e.1 = some e := by
  obtain ⟨e', ke, me, ez⟩ := K54F.kd_mem (List.mem_map_of_mem (List.mem_of_getElem? h))
  rw [ke]
  obtain ⟨j, hj⟩ := List.getElem?_of_mem me
  obtain ⟨l1, q1⟩ := List.getElem?_eq_some_iff.mp h
  obtain ⟨l2, q2⟩ := List.getElem?_eq_some_iff.mp hj
  have k1 : (ks.map (·.1))[i]'(by rw [List.length_map]; exact l1) = e.1 := by rw [List.getElem_map, q1]
  have k2 : (ks.map (·.1))[j]'(by rw [List.length_map]; exact l2) = e.1 := by rw [List.getElem_map, q2]; exact ez
  have ij := (List.getElem_inj nd (h₀ := by rw [List.length_map]; exact l1) (h₁ := by rw [List.length_map]; exact l2)).mp (k1.trans k2.symm)
  subst ij
  rw [h] at hj
  exact hj.symm
theorem src_at {ks : K54F.Ks} {i : Nat} {e : Str × K54F.Kd × Addr} (nd : (ks.map (·.1)).Nodup) (h : ks[i]? = some e) : K54F.srcOf ks e.1 = e.2.1.s := by unfold K54F.srcOf; rw [kd_at nd h]; rfl
theorem take_at {α : Type} {ks : List α} {i : Nat} {g : α → Str} {y : Str} (h : y ∈ (ks.take i).map g) : ∃ j e, j < i ∧ ks[j]? = some e ∧ g e = y := by
  obtain ⟨e, he, q⟩ := List.mem_map.mp h
  obtain ⟨j, hj⟩ := List.getElem?_of_mem he
  rw [List.getElem?_take] at hj
  split at hj
  · exact ⟨j, e, by assumption, hj, q⟩
  · cases hj
theorem chain_le {ks : K54F.Ks} (nd : (ks.map (·.1)).Nodup) (od : KOrd ks) : ∀ (n : Nat) (acc : List Str) (j : Nat) (e : Str × K54F.Kd × Addr), ks[j]? = some e → (K54F.chainB ks n acc (some e.1)).length ≤ acc.length + j + 1
  | 0, acc, j, e, h => by show acc.length ≤ _; omega
  | n + 1, acc, j, e, h => by
    show (K54F.chainB ks n (e.1 :: acc) (K54F.srcOf ks e.1)).length ≤ _
    rw [src_at nd h]
    cases c : e.2.1.s with
    | none => rw [K54F.chainB_none]; show acc.length + 1 ≤ _; omega
    | some y =>
      obtain ⟨j', e', lt, h', q⟩ := take_at (g := fun e : Str × K54F.Kd × Addr => e.1) (od j e y h c)
      rw [← q]
      have z := chain_le nd od n (e.1 :: acc) j' e' h'
      rw [List.length_cons] at z
      omega
theorem no_long {ks : K54F.Ks} (nd : (ks.map (·.1)).Nodup) (od : KOrd ks) (l : ks.length ≤ 4) : ks.any (K54F.lg ks) = false := by
  rw [List.any_eq_false]
  intro e he q
  have q1 : (4 : Int) < ((K54F.chainF ks e.1).map V.str).length := of_decide_eq_true q
  rw [List.length_map] at q1
  obtain ⟨j, hj⟩ := List.getElem?_of_mem he
  have jl := (List.getElem?_eq_some_iff.mp hj).1
  unfold K54F.chainF at q1
  rw [src_at nd hj] at q1
  cases c : e.2.1.s with
  | none => rw [c, K54F.chainB_none] at q1; exact absurd q1 (by show ¬ ((4 : Int) < ((1 : Nat) : Int)); decide)
  | some y =>
    rw [c] at q1
    obtain ⟨j', e', lt, h', q2⟩ := take_at (g := fun e : Str × K54F.Kd × Addr => e.1) (od j e y hj c)
    rw [← q2] at q1
    have z := chain_le nd od 4 [e.1] j' e' h'
    have z1 : ([e.1] : List Str).length = 1 := rfl
    omega
theorem kmk3 {K : PySem.W.Frag} {C CI : Addr} {H : Hp} {r : K54F.Kd} {F : VK} {E : XK} {x dx : Addr} (nx : H x = none) (ndx : H dx = none) (nex : dx ≠ x) (ok : K54F.KOk r) (q : ∀ H', Same H H' → K54F.KAt C H' x r → F .non H') :
    K54F.spKInit K C CI [.ref x, .int r.g, K54F.oV r.a, K54F.sV r.s] (upd (upd H dx (.own x)) x (.ins C dx [])) F E :=
  ⟨x, dx, _, _, _, H, rfl, upd_same, mk_same (C := C) nx ndx nex, nx, .inl ⟨r, rfl, rfl, rfl, ok, fun H1 ka kp => q H1 (Same.made nx ndx kp) ka⟩⟩
theorem fa_off {F C : Addr} {H H' : Hp} {f d c : Addr} {ks : K54F.Ks} {cs cs' : List V} (h : K54F.FltAt F C H f d c ks cs) (s : ∀ q o, H q = some o → q ≠ c → H' q = some o) (e : H' c = some (.lst cs')) : K54F.FltAt F C H' f d c ks cs' := by
  obtain ⟨⟨dx, ef⟩, ed, kd, ec⟩ := h
  have n1 : f ≠ c := fun z => by rw [z, ec] at ef; cases ef
  have n2 : d ≠ c := fun z => by rw [z, ec] at ed; cases ed
  refine ⟨⟨dx, s _ _ ef n1⟩, s _ _ ed n2, ⟨.inl (s _ _ ed n2), fun e he => ?_⟩, e⟩
  obtain ⟨⟨dx2, e2⟩, ok⟩ := kd.2 e he
  have n3 : e.2.2 ≠ c := fun z => by rw [z, ec] at e2; cases e2
  exact ⟨⟨dx2, s _ _ e2 n3⟩, ok⟩
def Cl.w (q : Cl) : Str × Str × Str × Int := (q.z, q.a, q.b, q.i)
@[irreducible] def spLFleet (FC KC : Addr) : Sp := fun vs H Q _ => ∃ (lk lc : Addr) (kr : List KRow) (cl : List Cl) (parts : List Str), vs = [.ref lk, .ref lc] ∧ H lk = some (.lst (kr.map fun k => V.ref k.t)) ∧ (∀ k ∈ kr, KrAt H k) ∧ KrOk kr ∧ kr.length ≤ 4 ∧
  H lc = some (.lst (cl.map fun q => V.ref q.t)) ∧ (∀ q ∈ cl, ClAt H q) ∧ ClOk parts (kr.map (·.z)) cl ∧ cl.length ≤ 5 ∧ (∀ z ∈ parts, K54C.Wd z) ∧
  ∀ (f d c : Addr) (ks : K54F.Ks) (cl' : List Cl) (H' : Hp), H f = none → H d = none → H c = none → Same H H' → K54F.FltAt FC KC H' f d c ks (cl'.map fun q => V.ref q.t) → (∀ q ∈ cl', ClAt H' q) → ks.map (fun e => (e.1, e.2.1)) = kr.map (fun k => (k.z, k.r)) → cl'.map Cl.w = cl.map Cl.w → Q (.ref f) H'
def gA4 : List V → List V → List V := fun vs zs => vs ++ zs
theorem kr_ord {kr : List KRow} {ks : K54F.Ks} {i : Nat} (ko : KrOk kr) (e : ks.map (fun e => (e.1, e.2.1)) = (kr.take i).map (fun k => (k.z, k.r))) : (ks.map (·.1)).Nodup ∧ KOrd ks ∧ ks.map (·.1) = (kr.take i).map (·.z) := by
  have nm : ks.map (·.1) = (kr.take i).map (·.z) := by
    have z := congrArg (List.map (·.1)) e
    rw [List.map_map, List.map_map] at z; exact z
  refine ⟨?_, fun j e0 z hj hs => ?_, nm⟩
  · rw [nm]; exact ko.nd.sublist ((List.take_sublist i kr).map _)
  · have z1 : (ks.map (fun e => (e.1, e.2.1)))[j]? = some (e0.1, e0.2.1) := by rw [List.getElem?_map, hj]; rfl
    rw [e, List.getElem?_map] at z1
    cases c : (kr.take i)[j]? with
    | none => rw [c] at z1; cases z1
    | some k =>
      rw [c] at z1
      have e2 : k.r = e0.2.1 := congrArg (·.2) (Option.some.inj z1)
      rw [List.getElem?_take] at c
      split at c
      · rename_i lt
        have m := ko.s j k z c (by rw [e2]; exact hs)
        have tt : (ks.take j).map (·.1) = (kr.take j).map (·.z) := by
          rw [List.map_take, nm, ← List.map_take, List.take_take, Nat.min_eq_left (by omega)]
        rw [tt]; exact m
      · cases c
theorem kr_kok {kr : List KRow} (ko : KrOk kr) {i : Nat} {k : KRow} (h : kr[i]? = some k) : K54F.KOk k.r := by
  have m := List.mem_of_getElem? h
  refine ⟨ko.g k m, fun a e => ?_, fun z e => ?_⟩
  · have := ko.a k m a e
    exact this
  · obtain ⟨j, k', _, h', q⟩ := take_at (g := KRow.z) (ko.s i k z h e)
    have w := ko.wd k' (List.mem_of_getElem? h')
    rw [q] at w
    exact ⟨w.ok.1, w.ok.2⟩
theorem kr_at {kr : List KRow} {i : Nat} {x : V} (h : (kr.map fun k => V.ref k.t)[i]? = some x) : ∃ k, kr[i]? = some k ∧ x = .ref k.t := by
  rw [List.getElem?_map] at h
  cases c : kr[i]? with
  | none => rw [c] at h; cases h
  | some k => rw [c] at h; exact ⟨k, rfl, (Option.some.inj h).symm⟩
theorem cl_at {cl : List Cl} {i : Nat} {x : V} (h : (cl.map fun k => V.ref k.t)[i]? = some x) : ∃ k, cl[i]? = some k ∧ x = .ref k.t := by
  rw [List.getElem?_map] at h
  cases c : cl[i]? with
  | none => rw [c] at h; cases h
  | some k => rw [c] at h; exact ⟨k, rfl, (Option.some.inj h).symm⟩
section
variable {P : Program} {w : World} {K : PySem.W.Frag} {mg : Str → Option Value} {base : Heap} {FC KC CI CU CA CM CO : Addr}
abbrev s_law_fleet : Stmt := top 101
theorem sc_law_fleet : FnScope ["kinds", "calls", "fleet", "name", "span_v", "aged", "feeder", "part", "one", "other", "keep"] ["kinds", "calls"] (defScope s_law_fleet) := ⟨rfl, rfl, rfl, by decide +kernel, rfl, by decide +kernel, by decide +kernel⟩
theorem ok_lfleet (D : DefK K mg "_law_fleet" s_law_fleet) (TF : K54F.FTx K mg FC) (M_Fleet : Mak P w K mg base CX0 1 "Fleet" FC (K54F.spFInit FC KC)) (M_Kind : MakW P w K mg base (L2.CX P w) 5 "Kind" KC ["gap", "age", "source"] K54F.g3 (K54F.spKInit K KC CI)) (M_set : Met P w K mg base (L2.CX P w) 8 FC "__setitem__" (K54F.spSet K FC KC CI CU CO))
    (M_add : MetW P w K mg base (L2.CX P w) 5 FC "add_call" 4 ["life"] gA4 (K54F.spAdd K FC KC CA CU CM CO)) : Cal P w K mg base CX0 9 "_law_fleet" (spLFleet FC KC) := by
  refine D.cal sc_law_fleet (fun _ _ _ _ _ _ us hl => match us, hl with | [_, _], _ => rfl) (fun vs H Q E h => ?_) fun f0 cdv A outer s H vs Q E hr h => ?_
  · unfold spLFleet at h; obtain ⟨lk, lc, kr, cl, parts, rfl, _⟩ := h; rfl
  · unfold spLFleet at h; obtain ⟨lk, lc, kr, cl, parts, rfl, ek, krA, ko, k4, ec, clA, co, c5, pw, k⟩ := h
    refine ⟨_, (pss_cons (ps_set (i := 2) sc_law_fleet.nd rfl (Or.inl rfl) (pe_mk0 M_Fleet hr (by decide) rfl))
      (pss_cons (ps_for PassesOwn.never rfl (pi_list (pv 0)) (pg_tup rfl (pgs_cons (pg_name (i := 3) sc_law_fleet.nd rfl (Or.inl rfl)) (pgs_cons (pg_name (i := 4) sc_law_fleet.nd rfl (Or.inl rfl)) (pgs_cons (pg_name (i := 5) sc_law_fleet.nd rfl (Or.inl rfl)) (pgs_cons (pg_name (i := 6) sc_law_fleet.nd rfl (Or.inl rfl)) pgs_nil))))) (pss_one (ps_asg (pe_mkKS M_Kind takes0 hr (by decide) rfl (pk_cons (pv 4) (pk_cons (pv 5) (pk_cons (pv 6) pk_nil)))) (pg_subO M_set TF.ns takes0 hr (by decide) (pv 2) (pv 3)))))
      (pss_cons (ps_for PassesOwn.never rfl (pi_list (pv 1)) (pg_tup rfl (pgs_cons (pg_name (i := 7) sc_law_fleet.nd rfl (Or.inl rfl)) (pgs_cons (pg_name (i := 8) sc_law_fleet.nd rfl (Or.inl rfl)) (pgs_cons (pg_name (i := 9) sc_law_fleet.nd rfl (Or.inl rfl)) (pgs_cons (pg_name (i := 10) sc_law_fleet.nd rfl (Or.inl rfl)) pgs_nil))))) (pss_one (ps_expr (pe_mKS M_add TF.cl takes0 hr (by decide) (pv 2) (pa_cons (pv 7) (pa_cons (pv 8) (pa_cons (pv 9) pa_nil))) (pk_cons (pv 10) pk_nil)))))
      (pss_one (ps_ret (pv 2)))))), ?_⟩
    intro f dx nf ndx nef
    refine ⟨f, dx, rfl, upd_same, fun H3 d0 c nd0 nc0 fa0 keep3 => ⟨rfl, ?_⟩⟩
    have s3 : Same H H3 := fun q o e => by
      have n : q ≠ f := ne_of_none e nf
      exact keep3 q o (by rw [upd_ne n, upd_ne (ne_of_none e ndx)]; exact e) n
    have frs : ∀ {q : Addr}, upd (upd H dx (.own f)) f (.ins FC dx []) q = none → H q = none := fun {q} n => by
      cases c : H q with
      | none => rfl
      | some o =>
        have n1 : q ≠ f := ne_of_none c nf
        rw [upd_ne n1, upd_ne (ne_of_none c ndx), c] at n; cases n
    have nd' := frs nd0
    have nc' := frs nc0
    clear nd0 nc0 frs keep3
    refine ⟨_, rfl, lk, rfl, ⟨_, SqL.of (s3 _ _ ek)⟩, for_list (K := K) (a := lk) (xs := kr.map fun k => V.ref k.t) (fun i sg H' => ∃ (v3 v4 v5 v6 v7 v8 v9 v10 : Option V) (d : Addr) (ks : K54F.Ks), sg = [some (.ref lk), some (.ref lc), some (.ref f), v3, v4, v5, v6, v7, v8, v9, v10] ∧ Same H H' ∧ H d = none ∧ K54F.FltAt FC KC H' f d c ks [] ∧ ks.map (fun (e : Str × K54F.Kd × Addr) => (e.1, e.2.1)) = (kr.take i).map (fun k => (k.z, k.r)))
      ⟨_, _, _, _, _, _, _, _, d0, [], rfl, s3, nd', fa0, rfl⟩ (fun i _ H' _ ⟨_, _, _, _, _, _, _, _, _, _, _, s', _⟩ => SqL.of (s' _ _ ek)) ?_ ?_⟩
    · rintro i y σ H' hy ⟨v3, v4, v5, v6, v7, v8, v9, v10, d, ks, rfl, s2, dn, fa, ke⟩
      obtain ⟨kk, hk, rfl⟩ := kr_at hy
      have mk := List.mem_of_getElem? hk
      refine ⟨kk.t, _, rfl, SqT.of (s2 _ _ (krA kk mk)), rfl, _, _, rfl, _, _, rfl, _, _, rfl, _, _, rfl, rfl, ?_⟩
      have kok := kr_kok ko hk
      refine ⟨_, rfl, _, rfl, _, rfl, rfl, fun x dx2 nx ndx2 nex => kmk3 nx ndx2 nex kok fun H1 s1 ka => ⟨rfl, ?_⟩⟩
      have fa1 := fa.keep s1
      have sH := s2.trans s1
      obtain ⟨dxf, ef⟩ := id fa1.at_
      obtain ⟨nd1, od1, nm1⟩ := kr_ord ko ke
      have il := (List.getElem?_eq_some_iff.mp hk).1
      have kl : ks.length = i := by
        have := congrArg List.length ke
        rw [List.length_map, List.length_map, List.length_take] at this
        omega
      have zn : kk.z ∉ ks.map (·.1) := by
        rw [nm1]
        intro m
        obtain ⟨j, k', lt, h', q⟩ := take_at (g := KRow.z) m
        obtain ⟨h1, q1⟩ := List.getElem?_eq_some_iff.mp h'
        obtain ⟨h2, q2⟩ := List.getElem?_eq_some_iff.mp hk
        have k1 : (kr.map (·.z))[j]'(by rw [List.length_map]; exact h1) = kk.z := by rw [List.getElem_map, q1]; exact q
        have k2 : (kr.map (·.z))[i]'(by rw [List.length_map]; exact h2) = kk.z := by rw [List.getElem_map, q2]
        have := (List.getElem_inj ko.nd (h₀ := by rw [List.length_map]; exact h1) (h₁ := by rw [List.length_map]; exact h2)).mp (k1.trans k2.symm)
        omega
      have an : (ks.any fun o => decide (o.1 = kk.z)) = false := by
        rw [List.any_eq_false]
        intro o ho q
        exact zn (List.mem_map.mpr ⟨o, ho, of_decide_eq_true q⟩)
      have pk : ∀ x', K54F.putKs ks kk.z kk.r x' = ks ++ [(kk.z, kk.r, x')] := fun x' => by unfold K54F.putKs; rw [an]; rfl
      have ke2 : ∀ x', (ks ++ [(kk.z, kk.r, x')]).map (fun (e : Str × K54F.Kd × Addr) => (e.1, e.2.1)) = (kr.take (i + 1)).map (fun k => (k.z, k.r)) := fun x' => by rw [List.map_append, ke, List.take_succ, hk, List.map_append]; rfl
      have src : ∀ z, kk.r.s = some z → z ∈ ks.map (·.1) := fun z e => by rw [nm1]; exact ko.s i kk z hk e
      have fed : K54F.Fed ks := fun e he z ez => by
        obtain ⟨j, hj⟩ := List.getElem?_of_mem he
        exact (List.Sublist.map (fun e : Str × K54F.Kd × Addr => e.1) (List.take_sublist j ks)).subset (od1 j e z hj ez)
      have wz := (ko.wd kk mk).ok
      refine ⟨_, rfl, _, rfl, f, dxf, _, rfl, ef, f, d, c, _, _, ks, [], rfl, fa1, by omega, fed, .inr ⟨x, kk.z, kk.r, rfl, rfl, ka, kok, wz.1, wz.2, .inr ⟨src, .inr ⟨.inr (by omega), .inr ⟨fun x' => ?_, fun d' x' H2 nd2 nx2 fa2 keep2 => ?_⟩⟩⟩⟩⟩
      · rw [pk]
        obtain ⟨nd3, od3, _⟩ := kr_ord ko (ke2 x')
        exact no_long nd3 od3 (by rw [List.length_append, kl]; show i + 1 ≤ 4; omega)
      · rw [pk] at fa2
        exact ⟨rfl, _, _, _, _, _, _, _, _, d', _, rfl, fun q o e => keep2 _ _ (sH _ _ e) (ne_of_none e nf), sH.free nd2, fa2, ke2 _⟩
    · rintro σ H4 ⟨v3, v4, v5, v6, v7, v8, v9, v10, d, ks, rfl, s4, dn, fa4, ke⟩
      rw [List.length_map, List.take_length] at ke
      obtain ⟨nd1, od1, nm1⟩ := kr_ord (i := kr.length) ko (by rw [List.take_length]; exact ke)
      rw [List.take_length] at nm1
      have wks : K54F.WdKs ks := fun e he => by
        have m : e.1 ∈ ks.map (·.1) := List.mem_map_of_mem he
        rw [nm1] at m
        obtain ⟨k', hk', q⟩ := List.mem_map.mp m
        rw [← q]; exact ⟨(ko.wd k' hk').ok.1, (ko.wd k' hk').ok.2⟩
      refine ⟨_, rfl, lc, rfl, ⟨_, SqL.of (s4 _ _ ec)⟩, for_list (K := K) (a := lc) (xs := cl.map fun k => V.ref k.t) (fun i sg H' => ∃ (v3 v4 v5 v6 v7 v8 v9 v10 : Option V) (cl' : List Cl), sg = [some (.ref lk), some (.ref lc), some (.ref f), v3, v4, v5, v6, v7, v8, v9, v10] ∧ Same H H' ∧ K54F.FltAt FC KC H' f d c ks (cl'.map fun q => V.ref q.t) ∧ (∀ q ∈ cl', ClAt H' q) ∧ cl'.map Cl.w = (cl.take i).map Cl.w)
        ⟨_, _, _, _, _, _, _, _, [], rfl, s4, fa4, (fun _ h => nomatch h), rfl⟩ (fun i _ H' _ ⟨_, _, _, _, _, _, _, _, _, _, s', _⟩ => SqL.of (s' _ _ ec)) ?_ ?_⟩
      · rintro i y σ H' hy ⟨w3, w4, w5, w6, w7, w8, w9, w10, cl', rfl, s5, fa5, ca5, ce⟩
        obtain ⟨q, hq, rfl⟩ := cl_at hy
        have mq := List.mem_of_getElem? hq
        refine ⟨q.t, _, rfl, SqT.of (s5 _ _ (clA q mq)), rfl, _, _, rfl, _, _, rfl, _, _, rfl, _, _, rfl, rfl, ?_⟩
        obtain ⟨dxf, ef⟩ := id fa5.at_
        have wz := (pw q.z (co.z q mq)).ok
        have ab := co.ab q mq
        rw [← nm1] at ab
        have iB := co.i q mq
        have cl5 : cl'.length = i := by
          have := congrArg List.length ce
          rw [List.length_map, List.length_map, List.length_take] at this
          have := (List.getElem?_eq_some_iff.mp hq).1
          omega
        have il := (List.getElem?_eq_some_iff.mp hq).1
        refine ⟨_, rfl, f, dxf, _, rfl, ef, K54F.get_fno _ _ (by decide +kernel) (by decide +kernel), _, rfl, _, rfl, _, rfl, _, rfl, rfl, rfl, ?_⟩
        refine ⟨f, d, c, _, _, _, _, ks, _, rfl, fa5, wks, .inr ⟨q.z, rfl, wz.1, wz.2, .inr ⟨q.a, rfl, ab.1, .inr ⟨q.b, rfl, ab.2, .inr ⟨q.i, rfl, iB.1, Int.le_of_lt iB.2, .inr ⟨by rw [List.length_map]; omega, fun t nt => ?_⟩⟩⟩⟩⟩⟩
        have g1 := same_new (o := .tup (K54F.callT q.z q.a q.b q.i)) nt
        have ecal := fa5.cal
        have tc : t ≠ c := fun z => by rw [z, ecal] at nt; cases nt
        refine ⟨_, _, _, _, _, _, _, _, cl' ++ [⟨t, q.z, q.a, q.b, q.i⟩], rfl, same_mut (s5.trans g1) nc', ?_, fun x hx => ?_, ?_⟩
        · rw [List.map_append]
          exact fa_off fa5 (fun b o e n => by rw [upd_ne n]; exact g1 _ _ e) upd_same
        · rcases List.mem_append.mp hx with hx | hx
          · exact (ca5 x hx).mut ecal g1
          · rw [List.mem_singleton.mp hx]
            show upd _ c _ t = _
            rw [upd_ne tc]
            exact upd_same
        · rw [List.map_append, ce, List.take_succ, hq, List.map_append]; rfl
      · rintro σ H5 ⟨w3, w4, w5, w6, w7, w8, w9, w10, cl', rfl, s5, fa5, ca5, ce⟩
        rw [List.length_map, List.take_length] at ce
        exact ⟨_, rfl, k f d c ks cl' H5 nf dn nc' s5 fa5 ca5 ke ce⟩
end
end K54
namespace K54
open PySem PySem.Spec PyProof.Rows L2 Jg
local macro_rules | `(tactic| walk_at "rd1") => `(tactic| (first
  | refine ⟨_, rfl, ?_⟩
  | refine ⟨_, _, rfl, rfl, ?_⟩
  | refine ⟨_, _, rfl, ?_⟩
  | refine ⟨rfl, ?_⟩
  | (refine ⟨show (0 : Int) < _ by omega, ?_⟩)
  | (refine ⟨Or.inl ⟨by omega, by omega⟩, ?_⟩)
  | (refine ⟨Or.inr ⟨by omega, by omega⟩, ?_⟩)
  | (refine ⟨(⟨by decide, by decide, by decide⟩ : CPow _ _), ?_⟩)
  | refine Or.inl ⟨_, rfl, ?_⟩
  | refine Or.inr ⟨_, rfl, ?_⟩
  | fail "rd"))
local macro_rules | `(tactic| walk_at "rd") => `(tactic| repeat' walk_at "rd1")
/-! ### lateness, as the law tells it -/
def lateZ (kr : List KRow) : Nat → Option Str → Int
  | 0, _ => 1
  | _ + 1, none => 1
  | n + 1, some z => match kr.find? (fun k => decide (k.z = z)) with
    | none => 1
    | some k => lateZ kr n k.r.s + K54F.addK k.r
theorem kr_find {kr : List KRow} {i : Nat} {k : KRow} (nd : (kr.map (·.z)).Nodup) (h : kr[i]? = some k) : kr.find? (fun q : KRow => decide (q.z = k.z)) = some k := by
  cases c : kr.find? (fun q : KRow => decide (q.z = k.z)) with
  | none => exact absurd (decide_eq_true rfl) (by have := List.find?_eq_none.mp c k (List.mem_of_getElem? h); exact this)
  | some q =>
    have ez : q.z = k.z := of_decide_eq_true (List.find?_some (p := fun q : KRow => decide (q.z = k.z)) c)
    obtain ⟨j, hj⟩ := List.getElem?_of_mem (List.mem_of_find?_eq_some c)
    obtain ⟨l1, q1⟩ := List.getElem?_eq_some_iff.mp h
    obtain ⟨l2, q2⟩ := List.getElem?_eq_some_iff.mp hj
    have k1 : (kr.map (·.z))[i]'(by rw [List.length_map]; exact l1) = k.z := by rw [List.getElem_map, q1]
    have k2 : (kr.map (·.z))[j]'(by rw [List.length_map]; exact l2) = k.z := by rw [List.getElem_map, q2]; exact ez
    have ij := (List.getElem_inj nd (h₀ := by rw [List.length_map]; exact l1) (h₁ := by rw [List.length_map]; exact l2)).mp (k1.trans k2.symm)
    subst ij
    rw [h] at hj
    exact hj.symm
end K54
namespace K54
open PySem PySem.Spec PyProof.Rows L2 Jg
local macro_rules | `(tactic| walk_at "rd1") => `(tactic| (first
  | refine ⟨_, rfl, ?_⟩
  | refine ⟨_, _, rfl, rfl, ?_⟩
  | refine ⟨_, _, rfl, ?_⟩
  | refine ⟨rfl, ?_⟩
  | (refine ⟨show (0 : Int) < _ by omega, ?_⟩)
  | (refine ⟨Or.inl ⟨by omega, by omega⟩, ?_⟩)
  | (refine ⟨Or.inr ⟨by omega, by omega⟩, ?_⟩)
  | (refine ⟨(⟨by decide, by decide, by decide⟩ : CPow _ _), ?_⟩)
  | refine Or.inl ⟨_, rfl, ?_⟩
  | refine Or.inr ⟨_, rfl, ?_⟩
  | fail "rd"))
local macro_rules | `(tactic| walk_at "rd") => `(tactic| repeat' walk_at "rd1")
open K54C (StA SameB spDr spCh use_choose spWords Wd)
/-! ### what a run draws -/
theorem lateF_from (ks : K54F.Ks) : ∀ (zs : List Str) (t : Int), zs.foldl (fun t z => t + K54F.addZ ks z) t = t - 1 + K54F.lateF ks zs
  | [], t => by show t = t - 1 + 1; omega
  | z :: zs, t => by
    have a := lateF_from ks zs (t + K54F.addZ ks z)
    have b := lateF_from ks zs (1 + K54F.addZ ks z)
    show zs.foldl _ (t + K54F.addZ ks z) = t - 1 + zs.foldl _ (1 + K54F.addZ ks z)
    rw [a, b]; omega
theorem lateF_cons (ks : K54F.Ks) (z : Str) (zs : List Str) : K54F.lateF ks (z :: zs) = K54F.lateF ks zs + K54F.addZ ks z := by
  have b := lateF_from ks zs (1 + K54F.addZ ks z)
  show zs.foldl _ (1 + K54F.addZ ks z) = _
  rw [b]; omega
/-- the same kinds stand in the fleet and in the rows -/
structure Alk (ks : K54F.Ks) (kr : List KRow) : Prop where
  e : ks.map (fun (e : Str × K54F.Kd × Addr) => (e.1, e.2.1)) = kr.map (fun k => (k.z, k.r))
  ok : KrOk kr
theorem Alk.at_ {ks : K54F.Ks} {kr : List KRow} (h : Alk ks kr) {i : Nat} {k : KRow} (hk : kr[i]? = some k) : ∃ x, K54F.kdOf ks k.z = some (k.z, k.r, x) := by
  have z : (ks.map (fun (e : Str × K54F.Kd × Addr) => (e.1, e.2.1)))[i]? = some (k.z, k.r) := by rw [h.e, List.getElem?_map, hk]; rfl
  rw [List.getElem?_map] at z
  cases c : ks[i]? with
  | none => rw [c] at z; cases z
  | some e =>
    rw [c] at z
    obtain ⟨e1, e2, x⟩ := e
    have q := Option.some.inj z
    have q1 : e1 = k.z := congrArg (·.1) q
    have q2 : e2 = k.r := congrArg (·.2) q
    subst q1 q2
    have nd := (kr_ord (i := kr.length) h.ok (by rw [List.take_length]; exact h.e)).1
    exact ⟨x, kd_at nd c⟩
theorem late_chain {ks : K54F.Ks} {kr : List KRow} (h : Alk ks kr) : ∀ (m : Nat) (acc : List Str) (o : Option Str), (∀ z, o = some z → ∃ (i : Nat) (k : KRow), kr[i]? = some k ∧ k.z = z) → K54F.lateF ks (K54F.chainB ks m acc o) = lateZ kr m o + K54F.lateF ks acc - 1
  | 0, acc, o, _ => by show K54F.lateF ks acc = 1 + _ - 1; omega
  | m + 1, acc, none, _ => by show K54F.lateF ks acc = 1 + _ - 1; omega
  | m + 1, acc, some z, hz => by
    obtain ⟨i, k, hk, rfl⟩ := hz z rfl
    obtain ⟨x, kx⟩ := h.at_ hk
    have es : K54F.srcOf ks k.z = k.r.s := by unfold K54F.srcOf; rw [kx]; rfl
    have ea : K54F.addZ ks k.z = K54F.addK k.r := by unfold K54F.addZ; rw [kx]
    show K54F.lateF ks (K54F.chainB ks m (k.z :: acc) (K54F.srcOf ks k.z)) = _
    rw [es, late_chain h m (k.z :: acc) k.r.s fun y e => ?_, lateF_cons, ea]
    · show _ = (match kr.find? (fun q => decide (q.z = k.z)) with | none => 1 | some q => lateZ kr m q.r.s + K54F.addK q.r) + _ - 1
      rw [kr_find h.ok.nd hk]
      show _ = lateZ kr m k.r.s + K54F.addK k.r + _ - 1
      omega
    · obtain ⟨j, k', _, h', q⟩ := take_at (g := KRow.z) (h.ok.s i k y hk e)
      exact ⟨j, k', h', q⟩
theorem late_eq {ks : K54F.Ks} {kr : List KRow} (h : Alk ks kr) {i : Nat} {k : KRow} (hk : kr[i]? = some k) : lateK ks k.z = lateZ kr 5 (some k.z) := by
  obtain ⟨x, kx⟩ := h.at_ hk
  have es : K54F.srcOf ks k.z = k.r.s := by unfold K54F.srcOf; rw [kx]; rfl
  have ea : K54F.addZ ks k.z = K54F.addK k.r := by unfold K54F.addZ; rw [kx]
  unfold lateK K54F.chainF
  rw [es, late_chain h 4 [k.z] k.r.s fun y e => by
    obtain ⟨j, k', _, h', q⟩ := take_at (g := KRow.z) (h.ok.s i k y hk e)
    exact ⟨j, k', h', q⟩, lateF_cons, ea]
  show _ = (match kr.find? (fun q => decide (q.z = k.z)) with | none => 1 | some q => lateZ kr 4 q.r.s + K54F.addK q.r)
  rw [kr_find h.ok.nd hk]
  show lateZ kr 4 k.r.s + (1 + K54F.addK k.r) - 1 = lateZ kr 4 k.r.s + K54F.addK k.r
  omega
theorem lateZ_b {kr : List KRow} (ok : KrOk kr) : ∀ (n : Nat) (o : Option Str), 1 ≤ lateZ kr n o ∧ lateZ kr n o ≤ 1 + n * (3 * 10 ^ 30)
  | 0, _ => ⟨Int.le_refl _, by show (1 : Int) ≤ _; omega⟩
  | n + 1, none => ⟨Int.le_refl _, by show (1 : Int) ≤ _; omega⟩
  | n + 1, some z => by
    show 1 ≤ (match kr.find? (fun q => decide (q.z = z)) with | none => 1 | some q => lateZ kr n q.r.s + K54F.addK q.r) ∧ (match kr.find? (fun q => decide (q.z = z)) with | none => 1 | some q => lateZ kr n q.r.s + K54F.addK q.r) ≤ _
    cases c : kr.find? (fun q => decide (q.z = z)) with
    | none => exact ⟨Int.le_refl _, by show (1 : Int) ≤ _; omega⟩
    | some k =>
      have m := List.mem_of_find?_eq_some c
      have g := ok.g k m
      have b := lateZ_b ok n k.r.s
      have a : 0 ≤ K54F.addK k.r ∧ K54F.addK k.r ≤ 3 * 10 ^ 30 := by
        unfold K54F.addK
        cases ca : k.r.a with
        | none => exact ⟨by show 0 ≤ k.r.g - 1; omega, by show k.r.g - 1 ≤ _; omega⟩
        | some a => have := ok.a k m a ca; exact ⟨by show 0 ≤ 2 * k.r.g + a - 2; omega, by show 2 * k.r.g + a - 2 ≤ _; omega⟩
      show 1 ≤ lateZ kr n k.r.s + K54F.addK k.r ∧ lateZ kr n k.r.s + K54F.addK k.r ≤ _
      rw [Int.natCast_add, Int.add_mul]
      omega
end K54
namespace K54
open PySem PySem.Spec PyProof.Rows L2 Jg
local macro_rules | `(tactic| walk_at "rd1") => `(tactic| (first
  | refine ⟨_, rfl, ?_⟩
  | refine ⟨_, _, rfl, rfl, ?_⟩
  | refine ⟨_, _, rfl, ?_⟩
  | refine ⟨rfl, ?_⟩
  | (refine ⟨show (0 : Int) < _ by omega, ?_⟩)
  | (refine ⟨Or.inl ⟨by omega, by omega⟩, ?_⟩)
  | (refine ⟨Or.inr ⟨by omega, by omega⟩, ?_⟩)
  | (refine ⟨(⟨by decide, by decide, by decide⟩ : CPow _ _), ?_⟩)
  | refine Or.inl ⟨_, rfl, ?_⟩
  | refine Or.inr ⟨_, rfl, ?_⟩
  | fail "rd"))
local macro_rules | `(tactic| walk_at "rd") => `(tactic| repeat' walk_at "rd1")
open K54C (StA SameB spDr spCh use_choose spWords Wd)
/-! ### a large draw -/
open K54C (Td TdAt TdsAt Ww Wn Gn spTolds)
structure Lrg (p L : Addr) (H : Hp) (lk lc lm lt : Addr) (kr : List KRow) (cl : List Cl) (ms : List Int) (qs : List Addr) (ds : List Td) (parts keys hands : List Str) : Prop where
  e : H L = some (.lst [.ref lk, .ref lc, .ref lm, .ref lt])
  ek : H lk = some (.lst (kr.map fun k => V.ref k.t))
  ka : ∀ k ∈ kr, KrAt H k
  ko : KrOk kr
  k1 : 1 ≤ kr.length
  k4 : kr.length ≤ 4
  ec : H lc = some (.lst (cl.map fun q => V.ref q.t))
  ca : ∀ q ∈ cl, ClAt H q
  co : ClOk parts (kr.map (·.z)) cl
  c4 : cl.length ≤ 4
  em : H lm = some (.lst (ms.map V.int))
  mo : Ms0 ms
  m1 : 1 ≤ ms.length
  m7 : ms.length ≤ 7
  et : H lt = some (.lst (qs.map V.ref))
  td : TdsAt parts keys hands H qs ds
  ww : Ww parts keys hands
  ql : qs.length = ms.length
  st : StA H p
  mp : lm ≠ p
@[irreducible] def spSmall : Sp := fun vs H Q _ => ∃ (p : Addr) (mn sp : Int), vs = [.ref p, .int mn, .int sp] ∧ StA H p ∧ 1 ≤ mn ∧ mn ≤ 7 ∧ 0 < sp ∧ sp ≤ 3 * 10 ^ 30 ∧
  ∀ (L lk lc lm lt : Addr) (kr : List KRow) (cl : List Cl) (ms : List Int) (qs : List Addr) (ds : List Td) (parts keys hands : List Str) (H' : Hp), Lrg p L H' lk lc lm lt kr cl ms qs ds parts keys hands → (ms.length : Int) ≤ mn → SameB p H H' → Q (.ref L) H'
theorem use_small {p : Addr} {mn sp : Int} {H : Hp} {Q : VK} {E : XK} (st : StA H p) (h1 : 1 ≤ mn) (h2 : mn ≤ 7) (h3 : 0 < sp) (h4 : sp ≤ 3 * 10 ^ 30) (k : ∀ (L lk lc lm lt : Addr) (kr : List KRow) (cl : List Cl) (ms : List Int) (qs : List Addr) (ds : List Td) (parts keys hands : List Str) (H' : Hp), Lrg p L H' lk lc lm lt kr cl ms qs ds parts keys hands → (ms.length : Int) ≤ mn → SameB p H H' → Q (.ref L) H') : spSmall [.ref p, .int mn, .int sp] H Q E := by
  unfold spSmall
  exact ⟨p, mn, sp, rfl, st, h1, h2, h3, h4, k⟩
theorem use_kinds {p : Addr} {i sp ag : Int} {H : Hp} {Q : VK} {E : XK} (st : StA H p) (h0 : 0 ≤ i) (h1 : i ≤ 5) (sp0 : 0 < sp) (sp1 : sp ≤ 10 ^ 30) (ag0 : 0 < ag) (ag1 : ag ≤ 10 ^ 30)
    (k : ∀ (l : Addr) (kr : List KRow) (H' : Hp), H l = none → l ≠ p → kr.length = i.toNat → KrOk kr → H' l = some (.lst (kr.map fun k => V.ref k.t)) → (∀ k ∈ kr, KrAt H' k) → StA H' p → SameB p H H' → Q (.ref l) H') : spKinds [.ref p, .int i, .int sp, .int ag] H Q E := by
  unfold spKinds
  exact ⟨p, i.toNat, sp, ag, by rw [show ((i.toNat : Nat) : Int) = i by omega], st, by omega, sp0, sp1, ag0, ag1, k⟩
theorem use_moments {p : Addr} {i sp : Int} {H : Hp} {Q : VK} {E : XK} (st : StA H p) (h0 : 1 ≤ i) (h1 : i ≤ 7) (sp0 : 0 < sp) (sp1 : sp ≤ 3 * 10 ^ 30)
    (k : ∀ (l : Addr) (ms : List Int) (H' : Hp), H l = none → l ≠ p → ms.length = i.toNat → Ms0 ms → H' l = some (.lst (ms.map V.int)) → StA H' p → SameB p H H' → Q (.ref l) H') : spMoments [.ref p, .int i, .int sp] H Q E := by
  unfold spMoments
  exact ⟨p, i.toNat, sp, by rw [show ((i.toNat : Nat) : Int) = i by omega], st, by omega, by omega, sp0, sp1, k⟩
theorem use_callsD {K : PySem.W.Frag} {p l1 l2 : Addr} {i kp : Int} {parts : List Str} {kr : List KRow} {H : Hp} {Q : VK} {E : XK} (st : StA H p) (h0 : 0 ≤ i) (h1 : i ≤ 6) (e1 : H l1 = some (.lst (parts.map V.str))) (pa0 : 0 < parts.length) (pa1 : parts.length ≤ 100)
    (e2 : H l2 = some (.lst (kr.map fun k => V.ref k.t))) (ka : ∀ k ∈ kr, KrAt H k) (kr0 : 0 < kr.length) (kr1 : kr.length ≤ 100) (kp0 : 0 < kp) (kp1 : kp ≤ 10 ^ 30)
    (k : ∀ (l : Addr) (cl : List Cl) (H' : Hp), H l = none → l ≠ p → cl.length = i.toNat → ClOk parts (kr.map (·.z)) cl → H' l = some (.lst (cl.map fun q => V.ref q.t)) → (∀ q ∈ cl, ClAt H' q) → StA H' p → SameB p H H' → Q (.ref l) H') : spCallsD K [.ref p, .int i, .ref l1, .ref l2, .int kp] H Q E := by
  unfold spCallsD
  exact ⟨p, i.toNat, l1, l2, parts, kr, kp, by rw [show ((i.toNat : Nat) : Int) = i by omega], st, by omega, e1, pa0, pa1, e2, ka, kr0, kr1, kp0, kp1, k⟩
theorem use_tolds {K : PySem.W.Frag} {p l1 l2 l3 : Addr} {n : Nat} {parts keys hands : List Str} {H : Hp} {Q : VK} {E : XK} (g : Gn p l1 l2 l3 parts keys hands H) (w : Wn parts keys hands) (h1 : 1 ≤ n) (h2 : n ≤ 100)
    (k : ∀ (f : Addr) (qs : List Addr) (ds : List Td) (H' : Hp), H f = none → f ≠ p → qs.length = n → H' f = some (.lst (qs.map V.ref)) → TdsAt parts keys hands H' qs ds → StA H' p → SameB p H H' → Q (.ref f) H') : spTolds K [.ref p, .int n, .ref l1, .ref l2, .ref l3] H Q E := by
  unfold spTolds
  exact ⟨p, l1, l2, l3, n, parts, keys, hands, rfl, g, w, h1, h2, k⟩
section
variable {P : Program} {w : World} {K : PySem.W.Frag} {mg : Str → Option Value} {base : Heap}
abbrev s_law_small : Stmt := top 102
theorem sc_law_small : FnScope ["stream", "many", "steps", "kinds", "calls", "moments", "parts", "keys", "hands"] ["stream", "many", "steps"] (defScope s_law_small) := ⟨rfl, rfl, rfl, by decide +kernel, rfl, by decide +kernel, by decide +kernel⟩
theorem ok_small (D : DefK K mg "_law_small" s_law_small) (T : TxP K mg) (G_law_draw : Cal P w K mg base CX0 1 "_law_draw" spDr) (G_law_words : Cal P w K mg base CX0 3 "_law_words" spWords) (G_law_kinds : Cal P w K mg base CX0 4 "_law_kinds" spKinds) (G_law_calls : Cal P w K mg base CX0 3 "_law_calls" (spCallsD K)) (G_law_moments : Cal P w K mg base CX0 2 "_law_moments" spMoments) (G_law_tolds : Cal P w K mg base CX0 4 "_law_tolds" (spTolds K)) : Cal P w K mg base CX0 5 "_law_small" spSmall := by
  refine D.cal sc_law_small (fun _ _ _ _ _ _ us hl => match us, hl with | [_, _, _], _ => rfl) (fun vs H Q E h => ?_) fun f cdv A outer s H vs Q E hr h => ?_
  · unfold spSmall at h; obtain ⟨p, mn, sp, rfl, _⟩ := h; rfl
  · unfold spSmall at h; obtain ⟨p, mn, sp, rfl, sA, m0, m7, q0, q1, k⟩ := h
    refine ⟨_, (pss_cons (ps_par3 (i := 6) (j := 7) (l := 8) (by rfl) sc_law_small.nd rfl rfl rfl (by decide) (by decide) (by decide) rfl rfl rfl (pa_cons (pe_c G_law_words hr (by decide) rfl (pa_cons (pv 0) (pa_cons (pe_op op_add pe_int (pe_c G_law_draw hr (by decide) rfl (pa_cons (pv 0) (pa_cons pe_int pa_nil)))) pa_nil))) (pa_cons (pe_c G_law_words hr (by decide) rfl (pa_cons (pv 0) (pa_cons pe_int pa_nil))) (pa_cons (pe_c G_law_words hr (by decide) rfl (pa_cons (pv 0) (pa_cons pe_int pa_nil))) pa_nil))) (by rfl))
      (pss_cons (ps_set (i := 3) sc_law_small.nd rfl (Or.inl rfl) (pe_c G_law_kinds hr (by decide) rfl (pa_cons (pv 0) (pa_cons (pe_op op_add pe_int (pe_c G_law_draw hr (by decide) rfl (pa_cons (pv 0) (pa_cons pe_int pa_nil)))) (pa_cons pe_int (pa_cons pe_int pa_nil))))))
      (pss_cons (ps_set (i := 4) sc_law_small.nd rfl (Or.inl rfl) (pe_c G_law_calls hr (by decide) rfl (pa_cons (pv 0) (pa_cons (pe_op op_add pe_int (pe_c G_law_draw hr (by decide) rfl (pa_cons (pv 0) (pa_cons pe_int pa_nil)))) (pa_cons (pv 6) (pa_cons (pv 3) (pa_cons pe_int pa_nil)))))))
      (pss_cons (ps_set (i := 5) sc_law_small.nd rfl (Or.inl rfl) (pe_c G_law_moments hr (by decide) rfl (pa_cons (pv 0) (pa_cons (pe_op op_add pe_int (pe_c G_law_draw hr (by decide) rfl (pa_cons (pv 0) (pa_cons (pv 1) pa_nil)))) (pa_cons (pv 2) pa_nil)))))
      (pss_one (ps_ret (pe_lst (pa_cons (pv 3) (pa_cons (pv 4) (pa_cons (pv 5) (pa_cons (pe_c G_law_tolds hr (by decide) rfl (pa_cons (pv 0) (pa_cons (pe_callB call_len_seq (by rfl) T.b_len (by decide +kernel) (pa_cons (pv 5) pa_nil)) (pa_cons (pv 6) (pa_cons (pv 7) (pa_cons (pv 8) pa_nil)))))) pa_nil))))))))))), ?_⟩
    refine ⟨_, rfl, _, rfl, use_drawB sA (by decide) (by decide +kernel) fun x1 H1 x10 x11 t1 s1 => ⟨_, _, rfl, rfl, p, 1 + x1, rfl, by omega, by omega, t1, fun l1 parts H2 n1 p1 wl1 wd1 nd1 e1 t2 s2 => ?_⟩⟩
    refine ⟨_, rfl, p, 3, rfl, by decide, by decide, t2, fun l2 keys H3 n2 p2 wl2 wd2 nd2 e2 t3 s3 => ⟨_, rfl, p, 2, rfl, by decide, by decide, t3, fun l3 hands H4 n3 p3 wl3 wd3 nd3 e3 t4 s4 => ⟨_, _, _, rfl, ?_⟩⟩⟩
    have wl2' : keys.length = 3 := wl2
    have wl3' : hands.length = 2 := wl3
    have e14 := s4 _ _ (s3 _ _ e1 p1) p1
    have e24 := s4 _ _ e2 p2
    have wlp : 1 ≤ parts.length ∧ parts.length ≤ 2 := by rw [wl1]; omega
    have s04 : SameB p H H4 := s1.trans (s2.trans (s3.trans s4))
    refine ⟨_, rfl, _, rfl, use_drawB t4 (by decide) (by decide +kernel) fun x7 H7 x70 x71 t7 s7 => ⟨_, _, rfl, rfl, use_kinds t7 (by omega) (by omega) (by decide) (by decide +kernel) (by decide) (by decide +kernel) fun lk kr H8 nk lkp krl ko ek ka t8 s8 => ?_⟩⟩
    have kl : 1 ≤ kr.length ∧ kr.length ≤ 3 := by rw [krl]; omega
    have s48 := s7.trans s8
    have e18 := s48 _ _ e14 p1
    refine ⟨_, rfl, _, rfl, use_drawB t8 (by decide) (by decide +kernel) fun x9 H9 x90 x91 t9 s9 => ⟨_, _, rfl, rfl, _, rfl, _, rfl, use_callsD t9 (by omega) (by omega) (s9 _ _ e18 p1) (by omega) (by omega) (s9 _ _ ek lkp) (fun k hk => (ka k hk).keep t8 s9) (by omega) (by omega) (by decide) (by decide +kernel) fun lc cl HA nc lcp cll co ec ca tA sA' => ?_⟩⟩
    have ekA := sA' _ _ (s9 _ _ ek lkp) lkp
    have kaA : ∀ k ∈ kr, KrAt HA k := fun k hk => ((ka k hk).keep t8 s9).keep t9 sA'
    have s8A := s9.trans sA'
    have cl4 : cl.length ≤ 4 := by rw [cll]; omega
    refine ⟨_, rfl, _, rfl, _, rfl, use_drawB tA (by omega) (by omega) fun xB HB xB0 xB1 tB sB => ⟨_, _, rfl, rfl, _, rfl, use_moments tB (by omega) (by omega) q0 q1 fun lm ms HD nm lmp ml mo em tD sD => ?_⟩⟩
    have m17 : 1 ≤ ms.length ∧ ms.length ≤ 7 := by rw [ml]; omega
    have sAD := sB.trans sD
    have s4D := s48.trans (s8A.trans sAD)
    refine ⟨_, rfl, _, rfl, _, rfl, _, rfl, _, rfl, lm, _, rfl, .inl (SqL.of em), _, rfl, _, rfl, _, rfl, ?_⟩
    have lml : (ms.map V.int).length = ms.length := List.length_map ..
    have gn : Gn p l1 l2 l3 parts keys hands HD := ⟨tD, s4D _ _ e14 p1, s4D _ _ e24 p2, s4D _ _ e3 p3⟩
    have wn : Wn parts keys hands := ⟨by omega, by omega, by omega, by omega, nd2, by omega, by omega, nd3⟩
    have ww : Ww parts keys hands := ⟨wn, nd1, by omega, by omega, wd1, wd2, wd3⟩
    refine use_tolds (n := (ms.map V.int).length) gn wn (by rw [lml]; exact m17.1) (by rw [lml]; omega) fun lt qs ds HF nt ltp ql et tds tF sF => ⟨by show 4 ≤ sizeLine; decide, fun L nL => ?_⟩
    have gL := same_new (o := .lst [.ref lk, .ref lc, .ref lm, .ref lt]) nL
    have sAF := sAD.trans sF
    refine k L lk lc lm lt kr cl ms qs ds parts keys hands _ ⟨upd_same, gL _ _ (sAF _ _ ekA lkp), fun k hk => ((kaA k hk).keep tA sAF).keep tF (SameB.of gL), ko, kl.1, by omega, gL _ _ (sAF _ _ ec lcp), fun q hq => ((ca q hq).keep tA sAF).keep tF (SameB.of gL), co, cl4, gL _ _ (sF _ _ em lmp), mo, m17.1, m17.2, gL _ _ et, tds.same gL, ww, by rw [ql, lml], tF.keep gL, lmp⟩ (by rw [ml]; omega) ?_
    exact (s04.trans (s48.trans (s8A.trans sAF))).trans (SameB.of gL)
end
end K54
/-! lists of pairs of ints; max of a list of ints -/
namespace Jg
open PySem PySem.Spec PyProof.Rows L2
/-- tuples of two ints -/
inductive TsAt (H : Hp) : List Addr → List (Int × Int) → Prop
  | nil : TsAt H [] []
  | cons {t : Addr} {a b : Int} {ts : List Addr} {ps : List (Int × Int)} : H t = some (.tup [.int a, .int b]) → TsAt H ts ps → TsAt H (t :: ts) ((a, b) :: ps)
theorem TsAt.mono {H H' : Hp} (s : ∀ q o, H q = some o → H' q = some o ∨ ∀ a b : Int, o ≠ .tup [.int a, .int b]) : ∀ {ts : List Addr} {ps : List (Int × Int)}, TsAt H ts ps → TsAt H' ts ps
  | _, _, .nil => .nil
  | _, _, .cons e r => .cons (by rcases s _ _ e with z | z; exact z; exact absurd rfl (z _ _)) (r.mono s)
theorem TsAt.same {H H' : Hp} {ts : List Addr} {ps : List (Int × Int)} (h : TsAt H ts ps) (s : ∀ q o, H q = some o → H' q = some o) : TsAt H' ts ps := h.mono fun q o e => .inl (s q o e)
theorem TsAt.len {H : Hp} : ∀ {ts : List Addr} {ps : List (Int × Int)}, TsAt H ts ps → ts.length = ps.length
  | _, _, .nil => rfl
  | _, _, .cons e r => congrArg (· + 1) r.len
theorem TsAt.more {H : Hp} {t : Addr} {a b : Int} (e : H t = some (.tup [.int a, .int b])) : ∀ {ts : List Addr} {ps : List (Int × Int)}, TsAt H ts ps → TsAt H (ts ++ [t]) (ps ++ [(a, b)])
  | _, _, .nil => .cons e .nil
  | _, _, .cons z r => .cons z (r.more e)
theorem TsAt.at_ {H : Hp} : ∀ {ts : List Addr} {ps : List (Int × Int)} {i : Nat} {t : Addr}, TsAt H ts ps → ts[i]? = some t → ∃ q, ps[i]? = some q ∧ H t = some (.tup [.int q.1, .int q.2])
  | _, _, i, t, .nil, h => by simp at h
  | _, _, 0, t, .cons e r, h => by cases Option.some.inj h; exact ⟨_, rfl, e⟩
  | _, _, i + 1, t, .cons e r, h => r.at_ (i := i) h
def PrsAt (H : Hp) (l : Addr) (ps : List (Int × Int)) : Prop := ∃ ts : List Addr, H l = some (.lst (ts.map V.ref)) ∧ TsAt H ts ps
theorem PrsAt.same {H H' : Hp} {l : Addr} {ps : List (Int × Int)} (h : PrsAt H l ps) (s : ∀ q o, H q = some o → H' q = some o) : PrsAt H' l ps := by
  obtain ⟨ts, e, t⟩ := h
  exact ⟨ts, s _ _ e, t.same s⟩
def dPr (q : Int × Int) : PyData := .tuple [.int q.1, .int q.2]
theorem TsAt.dp {K : PySem.W.Frag} {H : Hp} : ∀ {ts : List Addr} {ps : List (Int × Int)}, TsAt H ts ps → DpAll K H (ts.map V.ref) (ps.map dPr)
  | _, _, .nil => .nil
  | _, _, .cons e r => .cons (.tup (SqT.of e) (.cons (.int _) (.cons (.int _) .nil))) r.dp
theorem PrsAt.dp {K : PySem.W.Frag} {H : Hp} {l : Addr} {ps : List (Int × Int)} (h : PrsAt H l ps) : Dp K H (.ref l) (.list (ps.map dPr)) := by
  obtain ⟨ts, e, t⟩ := h
  exact .lst (SqL.of e) t.dp
/-! max of a list of ints -/
end Jg
namespace K54
open PySem PySem.Spec PyProof.Rows L2 Jg
local macro_rules | `(tactic| walk_at "rd1") => `(tactic| (first
  | refine ⟨_, rfl, ?_⟩
  | refine ⟨_, _, rfl, rfl, ?_⟩
  | refine ⟨_, _, rfl, ?_⟩
  | refine ⟨rfl, ?_⟩
  | (refine ⟨show (0 : Int) < _ by omega, ?_⟩)
  | (refine ⟨Or.inl ⟨by omega, by omega⟩, ?_⟩)
  | (refine ⟨Or.inr ⟨by omega, by omega⟩, ?_⟩)
  | (refine ⟨(⟨by decide, by decide, by decide⟩ : CPow _ _), ?_⟩)
  | refine Or.inl ⟨_, rfl, ?_⟩
  | refine Or.inr ⟨_, rfl, ?_⟩
  | fail "rd"))
local macro_rules | `(tactic| walk_at "rd") => `(tactic| repeat' walk_at "rd1")
/-! ### jumps of a kind -/
def lastJ (ms : List Int) (la : Int) (i : Nat) : Int := ms.getD (i + 1) 0 + la - 1
def jmRow (ms : List Int) (la : Int) (i n : Nat) : List (Int × Int) := ((List.range n).filter fun d => decide (ms.getD (i + 1 + d) 0 ≤ lastJ ms la i)).map fun d => ((i : Int), ((i + 1 + d : Nat) : Int))
def jmUp (ms : List Int) (la : Int) : Nat → List (Int × Int)
  | 0 => []
  | n + 1 => jmUp ms la n ++ jmRow ms la n (ms.length - (n + 1))
def jmps (ms : List Int) (la : Int) : List (Int × Int) := jmUp ms la (ms.length - 1)
theorem jmRow_mem {ms : List Int} {la : Int} {i n : Nat} {q : Int × Int} : q ∈ jmRow ms la i n ↔ ∃ d, d < n ∧ ms.getD (i + 1 + d) 0 ≤ lastJ ms la i ∧ q = ((i : Int), ((i + 1 + d : Nat) : Int)) := by
  unfold jmRow
  rw [List.mem_map]
  constructor
  · rintro ⟨d, hd, rfl⟩
    rw [List.mem_filter, List.mem_range] at hd
    exact ⟨d, hd.1, of_decide_eq_true hd.2, rfl⟩
  · rintro ⟨d, lt, le, rfl⟩
    exact ⟨d, List.mem_filter.mpr ⟨List.mem_range.mpr lt, decide_eq_true le⟩, rfl⟩
theorem jmUp_mem {ms : List Int} {la : Int} {q : Int × Int} : ∀ n, q ∈ jmUp ms la n ↔ ∃ i, i < n ∧ q ∈ jmRow ms la i (ms.length - (i + 1))
  | 0 => ⟨(fun h => nomatch h), fun ⟨_, h, _⟩ => absurd h (Nat.not_lt_zero _)⟩
  | n + 1 => by
    show q ∈ jmUp ms la n ++ jmRow ms la n (ms.length - (n + 1)) ↔ _
    rw [List.mem_append, jmUp_mem n]
    constructor
    · rintro (⟨i, lt, h⟩ | h)
      · exact ⟨i, by omega, h⟩
      · exact ⟨n, by omega, h⟩
    · rintro ⟨i, lt, h⟩
      by_cases c : i = n
      · subst c; exact .inr h
      · exact .inl ⟨i, by omega, h⟩
theorem jmps_mem {ms : List Int} {la : Int} {q : Int × Int} : q ∈ jmps ms la ↔ ∃ i j : Nat, i < j ∧ j < ms.length ∧ ms.getD j 0 ≤ lastJ ms la i ∧ q = ((i : Int), (j : Int)) := by
  unfold jmps
  rw [jmUp_mem]
  constructor
  · rintro ⟨i, lt, h⟩
    obtain ⟨d, ld, le, rfl⟩ := jmRow_mem.mp h
    exact ⟨i, i + 1 + d, by omega, by omega, le, rfl⟩
  · rintro ⟨i, j, lt, lj, le, rfl⟩
    refine ⟨i, by omega, jmRow_mem.mpr ⟨j - (i + 1), by omega, ?_, ?_⟩⟩
    · rw [show i + 1 + (j - (i + 1)) = j by omega]; exact le
    · rw [show i + 1 + (j - (i + 1)) = j by omega]
theorem jmRow_len {ms : List Int} {la : Int} {i n : Nat} : (jmRow ms la i n).length ≤ n := by
  unfold jmRow
  rw [List.length_map]
  have := List.length_filter_le (fun d => decide (ms.getD (i + 1 + d) 0 ≤ lastJ ms la i)) (List.range n)
  rw [List.length_range] at this; exact this
theorem jmUp_len {ms : List Int} {la : Int} : ∀ n, (jmUp ms la n).length ≤ n * ms.length
  | 0 => Nat.zero_le _
  | n + 1 => by
    show (jmUp ms la n ++ jmRow ms la n (ms.length - (n + 1))).length ≤ _
    rw [List.length_append, Nat.add_mul]
    have a := jmUp_len (ms := ms) (la := la) n
    have b := jmRow_len (ms := ms) (la := la) (i := n) (n := ms.length - (n + 1))
    omega
theorem jmRow_yes {ms : List Int} {la : Int} {i d : Nat} (h : ms.getD (i + 1 + d) 0 ≤ lastJ ms la i) : jmRow ms la i (d + 1) = jmRow ms la i d ++ [((i : Int), ((i + 1 + d : Nat) : Int))] := by
  unfold jmRow
  rw [rng_yes (p := fun d => decide (ms.getD (i + 1 + d) 0 ≤ lastJ ms la i)) (decide_eq_true h), List.map_append]; rfl
theorem jmRow_no {ms : List Int} {la : Int} {i d : Nat} (h : ¬ ms.getD (i + 1 + d) 0 ≤ lastJ ms la i) : jmRow ms la i (d + 1) = jmRow ms la i d := by
  unfold jmRow
  rw [rng_no (p := fun d => decide (ms.getD (i + 1 + d) 0 ≤ lastJ ms la i)) (decide_eq_false h)]
def spLastJ : Sp := fun vs H Q _ => ∃ l ms i la, vs = [.ref l, .int (i : Nat), .int la] ∧ H l = some (.lst (ms.map V.int)) ∧ i + 1 < ms.length ∧ Q (.int (lastJ ms la i)) H
def spJmPairs : Sp := fun vs H Q _ => ∃ l ms la, vs = [.ref l, .int la] ∧ H l = some (.lst (ms.map V.int)) ∧ 1 ≤ ms.length ∧ ms.length ≤ 100 ∧ ∀ f H', H f = none → Same H H' → PrsAt H' f (jmps ms la) → Q (.ref f) H'
section
variable {P : Program} {w : World} {K : PySem.W.Frag} {mg : Str → Option Value} {base : Heap} {C PC CU CE CM RC FC KC : Addr}
abbrev s_last_jump : Stmt := top 52
theorem sc_last_jump : FnScope ["moments", "early", "lateness"] ["moments", "early", "lateness"] (defScope s_last_jump) := ⟨rfl, rfl, rfl, by decide +kernel, rfl, by decide +kernel, by decide +kernel⟩
theorem ok_lastj (D : DefK K mg "last_jump" s_last_jump) : Cal P w K mg base CX0 1 "last_jump" spLastJ := by
  refine D.cal sc_last_jump (fun _ _ _ _ _ _ us hl => match us, hl with | [_, _, _], _ => rfl) (fun vs H Q E h => ?_) fun f0 cdv A outer s H vs Q E hr h => ?_
  · obtain ⟨l, ms, i, la, rfl, _⟩ := h; rfl
  · obtain ⟨l, ms, i, la, rfl, el, lt, k⟩ := h
    refine ⟨_, (pss_one (ps_ret (pe_op op_sub (pe_op op_add (pe_ix (r := rIxL K) ix_list (pv 0) (pe_op op_add (pv 1) pe_int) (fun _ _ => rfl)) (pv 2)) pe_int))), ?_⟩
    exact ⟨_, rfl, _, rfl, _, _, rfl, rfl, l, _, _, _, rfl, rfl, SqL.of el, atI_nat (j := i + 1) (ms_vat lt), _, rfl, _, _, rfl, rfl, _, _, rfl, rfl, k⟩
abbrev s_jump_pairs : Stmt := top 53
theorem sc_jump_pairs : FnScope ["moments", "lateness", "found", "early", "last", "late"] ["moments", "lateness"] (defScope s_jump_pairs) := ⟨rfl, rfl, rfl, by decide +kernel, rfl, by decide +kernel, by decide +kernel⟩
theorem ok_jpairs (D : DefK K mg "jump_pairs" s_jump_pairs) (T : TxP K mg) (G_last_jump : Cal P w K mg base CX0 1 "last_jump" spLastJ) : Cal P w K mg base CX0 2 "jump_pairs" spJmPairs := by
  refine D.cal sc_jump_pairs (fun _ _ _ _ _ _ us hl => match us, hl with | [_, _], _ => rfl) (fun vs H Q E h => ?_) fun f0 cdv A outer s H vs Q E hr h => ?_
  · obtain ⟨l, ms, la, rfl, _⟩ := h; rfl
  · obtain ⟨l, ms, la, rfl, el, n1, n100, k⟩ := h
    refine ⟨_, (pss_cons (ps_set (i := 2) sc_jump_pairs.nd rfl (Or.inl rfl) (pe_lst pa_nil))
      (pss_cons (ps_for PassesOwn.never rfl (pi_range1 (by rfl) T.b_range (pa_cons (pe_op op_sub (pe_callB call_len_seq (by rfl) T.b_len (by decide +kernel) (pa_cons (pv 0) pa_nil)) pe_int) pa_nil)) (pg_name (i := 3) sc_jump_pairs.nd rfl (Or.inl rfl)) (pss_cons (ps_set (i := 4) sc_jump_pairs.nd rfl (Or.inl rfl) (pe_c G_last_jump hr (by decide) rfl (pa_cons (pv 0) (pa_cons (pv 3) (pa_cons (pv 1) pa_nil)))))
      (pss_one (ps_for PassesOwn.never rfl (pi_range2W (by rfl) T.b_range (pa_cons (pe_op op_add (pv 3) pe_int) (pa_cons (pe_callB call_len_seq (by rfl) T.b_len (by decide +kernel) (pa_cons (pv 0) pa_nil)) pa_nil))) (pg_name (i := 5) sc_jump_pairs.nd rfl (Or.inl rfl)) (pss_one (ps_if (pt_cmpR op_le (pe_ix (r := rIxL K) ix_list (pv 0) (pv 5) (fun _ _ => rfl)) (pv 4) (nomark _)) (pss_one (ps_expr (pe_bm F.plainAttrs_list F.slot_list_append F.type_list_append mt_append (pv 2) (pa_cons (pe_tup (pa_cons (pv 3) (pa_cons (pv 5) pa_nil))) pa_nil)))) pss_nil))))))
      (pss_one (ps_ret (pv 2))))), ?_⟩
    have ln : (ms.map V.int).length = ms.length := List.length_map ..
    refine ⟨by show 0 ≤ sizeLine; decide, fun f nf => ⟨_, rfl, l, _, rfl, .inl (SqL.of (same_new nf _ _ el)), _, _, rfl, rfl, _, rfl, by rw [ln]; omega, by rw [ln]; omega, ?_⟩⟩
    rw [ln, show ((ms.length : Int) - 1).toNat = ms.length - 1 by omega]
    refine for_range (lo := 0) (fun i sg H' => ∃ v3 v4 v5 : Option V, sg = [some (.ref l), some (.int la), some (.ref f), v3, v4, v5] ∧ Same H H' ∧ PrsAt H' f (jmUp ms la i)) ⟨_, _, _, rfl, same_new nf, [], upd_same, .nil⟩ ?_ ?_
    · rintro i sg H1 hi ⟨v3, v4, v5, rfl, s1, p1⟩
      have ei : (0 : Int) + (i : Nat) = ((i : Nat) : Int) := by omega
      rw [ei]
      refine ⟨_, rfl, _, rfl, _, rfl, l, ms, i, la, rfl, s1 _ _ el, by omega, ?_⟩
      refine ⟨_, rfl, _, _, rfl, rfl, _, rfl, l, _, rfl, .inl (SqL.of (s1 _ _ el)), _, _, rfl, ?_⟩
      rw [ln, show ((ms.length : Int) - ((i : Int) + 1)).toNat = ms.length - (i + 1) by omega]
      show Exists _
      refine for_range (lo := (i : Int) + 1) (fun d sg H' => ∃ v5 : Option V, sg = [some (.ref l), some (.int la), some (.ref f), some (.int i), some (.int (lastJ ms la i)), v5] ∧ Same H H' ∧ PrsAt H' f (jmUp ms la i ++ jmRow ms la i d)) ⟨_, rfl, s1, by rw [show jmRow ms la i 0 = [] from rfl, List.append_nil]; exact p1⟩ ?_ ?_
      · rintro d sg H2 hd ⟨v5, rfl, s2, p2⟩
        have ed : ((i : Int) + 1) + (d : Nat) = ((i + 1 + d : Nat) : Int) := by omega
        rw [ed]
        obtain ⟨ts, ef, tp⟩ := id p2
        refine ⟨_, rfl, _, rfl, l, _, _, _, rfl, rfl, SqL.of (s2 _ _ el), atI_nat (j := i + 1 + d) (ms_vat (by omega)), _, rfl, _, _, rfl, rfl, _, rfl, ?_⟩
        by_cases c : ms.getD (i + 1 + d) 0 ≤ lastJ ms la i
        · refine iteTe (decide_eq_true c) ⟨_, rfl, .inl ⟨rfl, _, .inl (.inl ef)⟩, _, rfl, _, rfl, by show 2 ≤ sizeLine; decide, fun t nt => ?_⟩
          have g := same_new (o := .tup [.int (i : Int), .int ((i + 1 + d : Nat) : Int)]) nt
          have tf : t ≠ f := fun z => by rw [z, ef] at nt; cases nt
          have tl := tp.len
          have z1 := jmUp_len (ms := ms) (la := la) i
          have z2 := jmRow_len (ms := ms) (la := la) (i := i) (n := d)
          have z3 : i * ms.length ≤ 100 * 100 := Nat.mul_le_mul (by omega) n100
          rw [List.length_append] at tl
          refine ⟨f, _, _, rfl, rfl, g _ _ ef, by rw [List.length_map, sizeLine_eq]; omega, ?_⟩
          refine ⟨_, rfl, same_mut (s2.trans g) nf, ts ++ [t], by rw [upd_same, List.map_append]; rfl, ?_⟩
          rw [jmRow_yes c, ← List.append_assoc]
          refine TsAt.more (by rw [upd_ne tf]; exact upd_same) (tp.mono fun q o e => ?_)
          by_cases qf : q = f
          · subst qf
            rw [ef] at e
            cases Option.some.inj e
            exact .inr fun _ _ z => nomatch z
          · rw [upd_ne qf]; exact .inl (g _ _ e)
        · exact iteFe (decide_eq_false c) ⟨_, rfl, s2, by rw [jmRow_no c]; exact p2⟩
      · rintro sg H2 ⟨v5, rfl, s2, p2⟩
        exact ⟨_, _, _, rfl, s2, p2⟩
    · rintro sg H1 ⟨v3, v4, v5, rfl, s1, p1⟩
      exact ⟨_, rfl, k f H1 nf s1 p1⟩
end
end K54
/-! x not in a list of texts, x any data or an empty dict (own). -/
namespace Jg
open PySem PySem.Spec PyProof.Rows L2
end Jg
/-! the written part of the heap looked at in one pass over the objects -/
namespace Jg
open PySem PySem.W
def live (o : Obj) : Option Obj := match o with
  | ⟨_, _, .freed, _⟩ => none
  | o => some o
def at_ (objs : Array Obj) (a : Addr) : Option Obj := match objs[a]? with
  | some ⟨_, _, .freed, _⟩ => none
  | o => o
theorem at_live {objs : Array Obj} {a : Addr} {o : Obj} (h : objs[a]? = some o) : at_ objs a = live o := by
  unfold at_ live
  rw [h]
  obtain ⟨c, d, x, t⟩ := o
  cases x <;> rfl
def pick : List Obj → Nat → List Addr → List (Option Obj)
  | [], _, as => as.map fun _ => none
  | _ :: _, _, [] => []
  | o :: r, i, a :: as => match Nat.beq a i with
    | true => live o :: pick r (i + 1) as
    | false => pick r (i + 1) (a :: as)
theorem pick_ok {objs : Array Obj} : ∀ (l : List Obj) (i : Nat) (as : List Addr) (vs : List Obj), (∀ j, l[j]? = objs[i + j]?) → pick l i as = vs.map some → as.map (at_ objs) = vs.map some
  | [], i, as, vs, h, e => by
    have e : as.map (fun _ => (none : Option Obj)) = vs.map some := by cases as <;> exact e
    cases as with
    | nil => exact e
    | cons a as =>
      cases vs with
      | nil => cases e
      | cons v vs => simp at e
  | o :: r, i, [], vs, h, e => e
  | o :: r, i, a :: as, vs, h, e => by
    have h' : ∀ j, r[j]? = objs[i + 1 + j]? := fun j => by
      have z := h (j + 1)
      rw [List.getElem?_cons_succ] at z
      rw [z, show i + (j + 1) = i + 1 + j by omega]
    have e : (match Nat.beq a i with | true => live o :: pick r (i + 1) as | false => pick r (i + 1) (a :: as)) = vs.map some := e
    cases c : Nat.beq a i with
    | true =>
      rw [c] at e
      have ai : a = i := Nat.eq_of_beq_eq_true c
      subst ai
      cases vs with
      | nil => cases e
      | cons v vs =>
        rw [List.map_cons] at e
        injection e with e1 e2
        have z := h 0
        rw [List.getElem?_cons_zero, Nat.add_zero] at z
        rw [List.map_cons, List.map_cons, pick_ok r (a + 1) as vs h' e2, at_live z.symm, e1]
    | false =>
      rw [c] at e
      exact pick_ok r (i + 1) (a :: as) vs h' e
theorem pick_in {K : Params → Frag} {as : List Addr} (e : ∀ P, as = (K P).map (·.1)) (w : World) (s : Shared) (x : pick s.heap.objs.toList 0 as = (K w.params).map fun p => some p.2) : InK K w s.heap :=
  InK.of e w s (by
    have z := pick_ok (objs := s.heap.objs) s.heap.objs.toList 0 as ((K w.params).map (·.2)) (fun j => by rw [Nat.zero_add, Array.getElem?_toList]) (by rw [x, List.map_map]; rfl)
    rw [List.map_map] at z
    exact z)
def pHook (K : Params → Frag) (as : List Addr) (e : ∀ P, as = (K P).map (·.1)) (_ : Unit) (_ : Unit) : Hook :=
  ⟨List (Option Obj), fun s => pick s.heap.objs.toList 0 as, fun w => (K w.params).map fun p => some p.2, InK K, pick_in e, InK.keeps⟩
def pmHook (K : Params → Frag) (as : List Addr) (e : ∀ P, as = (K P).map (·.1)) (ts : List Addr) (_ : Unit) : Hook where
  α := List (Option Obj) × List (Option Obj)
  obs := fun s => (pick s.heap.objs.toList 0 as, ts.map s.heap.get?)
  val := fun w => ((K w.params).map fun p => some p.2, ts.map fun _ => some (tabObj #[]))
  says := fun w h => InK K w h ∧ ∀ P ∈ ts, h.get? P = some (tabObj #[])
  of := fun w s x => ⟨pick_in e w s (Prod.mk.inj x).1, List.map_inj_left.mp (Prod.mk.inj x).2⟩
  keeps := fun w h h' x k => ⟨InK.keeps w h h' x.1 k, fun P hP => k _ _ (x.2 P hP)⟩
theorem p_in_of {K : Params → Frag} {as : List Addr} {e : ∀ P, as = (K P).map (·.1)} {w : World} {h : Heap} (Y : (pHook K as e () ()).says w h) : (K w.params).In h := Y
end Jg
/-! for in the body of a generator; list(g) of a generator def (own). -/
namespace Jg
open PySem PySem.Spec PyProof.Rows L2 GenW
/-! ### generator defs of the text; list(f(..)) -/
end Jg
/-! ranges as values: range(n), for over such a value (own). -/
namespace Jg
open PySem PySem.Spec PyProof.Rows L2
section
variable {X : Cx} {tg : Expr}
def rRng1 : List V → Hp → VK → Prop := fun vs H Q => ∃ j, vs = [V.int j] ∧ ∀ p, H p = none → Q (.ref p) (upd H p (.rng 0 j))
theorem cr_range1 : CallR X (.type "range") rRng1 := by
  intro pins s σ H vs us Q I r h
  obtain ⟨j, rfl, q⟩ := h
  obtain ⟨u, rfl, ru⟩ := vals1 r
  obtain ⟨t, rfl⟩ := ru
  refine call_range_1 ⟨.ref s.heap.objs.size, upd H s.heap.objs.size (.rng 0 j), I.laid (fun b o e => Heap.get?_push_of_some _ e) (Nat.le_refl _) ?_, rfl, q _ (I.hok.fresh (Nat.le_refl _))⟩
  exact ⟨_, _, _, Heap.get?_push_size _ rfl⟩
def iRngV (te : TE) : TI := fun σ H R => te σ H fun x H1 => ∃ a lo hi, x = .ref a ∧ H1 a = some (.rng lo hi) ∧ -(2 ^ 62) ≤ lo ∧ lo < 2 ^ 62 ∧ -(2 ^ 62) ≤ hi ∧ hi < 2 ^ 62 ∧ R (Itr lo (hi - lo).toNat) H1
theorem pi_rngV {l : Expr} {te : TE} (hl : PE X l te) : PI X tg l (iRngV te) := by
  refine ⟨fun pins s σ H R I h => ?_⟩
  refine thn (hl.run pins s σ H _ I h) fun v s1 ⟨x, H1, I1, r1, q1⟩ => ?_
  obtain ⟨a, lo, hi, rfl, ha, h1, h2, h3, h4, q⟩ := q1
  cases r1
  obtain ⟨t, u, w, ho⟩ := I1.hok a _ ha
  refine wpAny_pyIter_range (show IsRange s1.heap a lo hi 1 t u w from ho) (small_one h1 h2 h3 h4) ?_
  refine ⟨s1.heap.objs.size, [s1.heap.objs.size], _, _, H1, rfl, I1.kept (t' := s1.toks) fun b o e => Heap.get?_push_of_some _ e, turn_range _ lo (hi - lo).toNat, ?_, fun b hb => ?_, q⟩
  · have e1 : lo + ((0 : Nat) : Int) * 1 = lo := by simp
    have e2 : (((hi - lo).toNat : Nat) : Int) - ((0 : Nat) : Int) = Builtin.Range.rangeSize lo hi 1 := by rw [rangeSize_one]; split <;> omega
    show IsRangeIter _ _ (lo + ((0 : Nat) : Int) * 1) ((((hi - lo).toNat : Nat) : Int) - ((0 : Nat) : Int)) 1
    rw [e1, e2]
    exact Heap.get?_push_size _ rfl
  · have e : b = s1.heap.objs.size := by simpa using hb
    subst e
    exact I1.fpOk (Nat.le_refl _) (I1.hok.fresh (Nat.le_refl _))
end
end Jg
/-! lists of triples (text, int, int) -/
namespace Jg
open PySem PySem.Spec PyProof.Rows L2
abbrev Tr := Str × Int × Int
def Tr.v (q : Tr) : List V := [.str q.1, .int q.2.1, .int q.2.2]
inductive TtAt (H : Hp) : List Addr → List Tr → Prop
  | nil : TtAt H [] []
  | cons {t : Addr} {q : Tr} {ts : List Addr} {ps : List Tr} : H t = some (.tup (Tr.v q)) → TtAt H ts ps → TtAt H (t :: ts) (q :: ps)
theorem TtAt.same {H H' : Hp} (s : ∀ q o, H q = some o → H' q = some o) : ∀ {ts : List Addr} {ps : List Tr}, TtAt H ts ps → TtAt H' ts ps
  | _, _, .nil => .nil
  | _, _, .cons e r => .cons (s _ _ e) (r.same s)
theorem TtAt.mono {H H' : Hp} (s : ∀ q o, H q = some o → H' q = some o ∨ ∀ q : Tr, o ≠ .tup (Tr.v q)) : ∀ {ts : List Addr} {ps : List Tr}, TtAt H ts ps → TtAt H' ts ps
  | _, _, .nil => .nil
  | _, _, .cons e r => .cons (by rcases s _ _ e with z | z; exact z; exact absurd rfl (z _)) (r.mono s)
theorem TtAt.len {H : Hp} : ∀ {ts : List Addr} {ps : List Tr}, TtAt H ts ps → ts.length = ps.length
  | _, _, .nil => rfl
  | _, _, .cons e r => congrArg (· + 1) r.len
theorem TtAt.app {H : Hp} : ∀ {ts us : List Addr} {ps qs : List Tr}, TtAt H ts ps → TtAt H us qs → TtAt H (ts ++ us) (ps ++ qs)
  | _, _, _, _, .nil, h => h
  | _, _, _, _, .cons z r, h => .cons z (r.app h)
theorem TtAt.more {H : Hp} {t : Addr} {q : Tr} {ts : List Addr} {ps : List Tr} (h : TtAt H ts ps) (e : H t = some (.tup (Tr.v q))) : TtAt H (ts ++ [t]) (ps ++ [q]) := h.app (.cons e .nil)
theorem TtAt.at_ {H : Hp} : ∀ {ts : List Addr} {ps : List Tr} {i : Nat} {t : Addr}, TtAt H ts ps → ts[i]? = some t → ∃ q, ps[i]? = some q ∧ H t = some (.tup (Tr.v q))
  | _, _, i, t, .nil, h => by simp at h
  | _, _, 0, t, .cons e r, h => by cases Option.some.inj h; exact ⟨_, rfl, e⟩
  | _, _, i + 1, t, .cons e r, h => r.at_ (i := i) h
def TrsAt (H : Hp) (l : Addr) (ps : List Tr) : Prop := ∃ ts : List Addr, H l = some (.lst (ts.map V.ref)) ∧ TtAt H ts ps
theorem TrsAt.same {H H' : Hp} {l : Addr} {ps : List Tr} (h : TrsAt H l ps) (s : ∀ q o, H q = some o → H' q = some o) : TrsAt H' l ps := by
  obtain ⟨ts, e, t⟩ := h
  exact ⟨ts, s _ _ e, t.same s⟩
theorem push_mono {H : Hp} {D : Addr} {xs : List V} {o : HO} (eD : H D = some (.lst xs)) : ∀ q u, H q = some u → upd H D o q = some u ∨ ∀ vs, u ≠ .tup vs := fun q u e => by
  by_cases c : q = D
  · subst c
    rw [eD] at e
    cases Option.some.inj e
    exact .inr fun _ z => nomatch z
  · rw [upd_ne c]; exact .inl e
theorem TrsAt.push {H : Hp} {D t : Addr} {us : List Addr} {ps : List Tr} {q : Tr} (eD : H D = some (.lst (us.map V.ref))) (tt : TtAt H us ps) (et : H t = some (.tup (Tr.v q))) : TrsAt (upd H D (.lst (us.map V.ref ++ [.ref t]))) D (ps ++ [q]) := by
  have n : t ≠ D := fun z => by rw [z, eD] at et; cases et
  exact ⟨us ++ [t], by rw [upd_same, List.map_append]; rfl, (tt.mono fun b o e => (push_mono eD b o e).imp id fun z q => z _).more (by rw [upd_ne n]; exact et)⟩
theorem PrsAt.push {H : Hp} {D t : Addr} {us : List Addr} {ps : List (Int × Int)} {a b : Int} (eD : H D = some (.lst (us.map V.ref))) (tt : TsAt H us ps) (et : H t = some (.tup [.int a, .int b])) : PrsAt (upd H D (.lst (us.map V.ref ++ [.ref t]))) D (ps ++ [(a, b)]) := by
  have n : t ≠ D := fun z => by rw [z, eD] at et; cases et
  exact ⟨us ++ [t], by rw [upd_same, List.map_append]; rfl, TsAt.more (by rw [upd_ne n]; exact et) (tt.mono fun b o e => (push_mono eD b o e).imp id fun z q1 q2 => z _)⟩
def dTr (q : Tr) : PyData := .tuple [.str q.1, .int q.2.1, .int q.2.2]
theorem TtAt.dp {K : PySem.W.Frag} {H : Hp} : ∀ {ts : List Addr} {ps : List Tr}, TtAt H ts ps → DpAll K H (ts.map V.ref) (ps.map dTr)
  | _, _, .nil => .nil
  | _, _, .cons e r => .cons (.tup (SqT.of e) (.cons (.str _) (.cons (.int _) (.cons (.int _) .nil)))) r.dp
theorem TrsAt.dp {K : PySem.W.Frag} {H : Hp} {l : Addr} {ps : List Tr} (h : TrsAt H l ps) : Dp K H (.ref l) (.list (ps.map dTr)) := by
  obtain ⟨ts, e, t⟩ := h
  exact .lst (SqL.of e) t.dp
end Jg
/-! lists of tuples of one form, compared by their values (own) -/
namespace Jg
open PySem PySem.Spec PyProof.Rows L2
section
variable {α : Type} {v : α → List V}
inductive GtAt (v : α → List V) (H : Hp) : List Addr → List α → Prop
  | nil : GtAt v H [] []
  | cons {t : Addr} {q : α} {ts : List Addr} {ps : List α} : H t = some (.tup (v q)) → GtAt v H ts ps → GtAt v H (t :: ts) (q :: ps)
theorem GtAt.same {H H' : Hp} (s : ∀ q o, H q = some o → H' q = some o) : ∀ {ts : List Addr} {ps : List α}, GtAt v H ts ps → GtAt v H' ts ps
  | _, _, .nil => .nil
  | _, _, .cons e r => .cons (s _ _ e) (r.same s)
theorem GtAt.mono {H H' : Hp} (s : ∀ q o, H q = some o → H' q = some o ∨ ∀ vs, o ≠ .tup vs) : ∀ {ts : List Addr} {ps : List α}, GtAt v H ts ps → GtAt v H' ts ps
  | _, _, .nil => .nil
  | _, _, .cons e r => .cons (by rcases s _ _ e with z | z; exact z; exact absurd rfl (z _)) (r.mono s)
theorem GtAt.len {H : Hp} : ∀ {ts : List Addr} {ps : List α}, GtAt v H ts ps → ts.length = ps.length
  | _, _, .nil => rfl
  | _, _, .cons e r => congrArg (· + 1) r.len
theorem GtAt.app {H : Hp} : ∀ {ts us : List Addr} {ps qs : List α}, GtAt v H ts ps → GtAt v H us qs → GtAt v H (ts ++ us) (ps ++ qs)
  | _, _, _, _, .nil, h => h
  | _, _, _, _, .cons z r, h => .cons z (r.app h)
theorem GtAt.more {H : Hp} {t : Addr} {q : α} {ts : List Addr} {ps : List α} (h : GtAt v H ts ps) (e : H t = some (.tup (v q))) : GtAt v H (ts ++ [t]) (ps ++ [q]) := h.app (.cons e .nil)
theorem GtAt.at_ {H : Hp} : ∀ {ts : List Addr} {ps : List α} {i : Nat} {t : Addr}, GtAt v H ts ps → ts[i]? = some t → ∃ q, ps[i]? = some q ∧ H t = some (.tup (v q))
  | _, _, i, t, .nil, h => by simp at h
  | _, _, 0, t, .cons e r, h => by cases Option.some.inj h; exact ⟨_, rfl, e⟩
  | _, _, i + 1, t, .cons e r, h => r.at_ (i := i) h
def GsAt (v : α → List V) (H : Hp) (l : Addr) (ps : List α) : Prop := ∃ ts : List Addr, H l = some (.lst (ts.map V.ref)) ∧ GtAt v H ts ps
theorem GsAt.same {H H' : Hp} {l : Addr} {ps : List α} (h : GsAt v H l ps) (s : ∀ q o, H q = some o → H' q = some o) : GsAt v H' l ps := by
  obtain ⟨ts, e, t⟩ := h
  exact ⟨ts, s _ _ e, t.same s⟩
theorem GsAt.nil {H : Hp} {l : Addr} (h : H l = some (.lst [])) : GsAt v H l [] := ⟨[], h, .nil⟩
theorem GsAt.push {H : Hp} {D t : Addr} {us : List Addr} {ps : List α} {q : α} (eD : H D = some (.lst (us.map V.ref))) (tt : GtAt v H us ps) (et : H t = some (.tup (v q))) : GsAt v (upd H D (.lst (us.map V.ref ++ [.ref t]))) D (ps ++ [q]) := by
  have n : t ≠ D := fun z => by rw [z, eD] at et; cases et
  exact ⟨us ++ [t], by rw [upd_same, List.map_append]; rfl, (tt.mono (push_mono eD)).more (by rw [upd_ne n]; exact et)⟩
/-- the tuples as data -/
structure Gd [DecidableEq α] (v : α → List V) (d : α → PyData) (ok : α → Prop) : Prop where
  dp : ∀ {K : PySem.W.Frag} {H : Hp} {t : Addr} {q : α}, H t = some (.tup (v q)) → Dp K H (.ref t) (d q)
  lay : ∀ q, ok q → (d q).canLay0 = true
  dep : ∀ q, (d q).depth ≤ 2
  eqv : ∀ p q, PyData.eqv (d p) (d q) = decide (p = q)
variable [DecidableEq α] {d : α → PyData} {ok : α → Prop}
theorem GtAt.dp (g : Gd v d ok) {K : PySem.W.Frag} {H : Hp} : ∀ {ts : List Addr} {ps : List α}, GtAt v H ts ps → DpAll K H (ts.map V.ref) (ps.map d)
  | _, _, .nil => .nil
  | _, _, .cons e r => .cons (g.dp e) (GtAt.dp g r)
theorem GsAt.dp (g : Gd v d ok) {K : PySem.W.Frag} {H : Hp} {l : Addr} {ps : List α} (h : GsAt v H l ps) : Dp K H (.ref l) (.list (ps.map d)) := by
  obtain ⟨ts, e, t⟩ := h
  exact .lst (SqL.of e) (GtAt.dp g t)
variable {K : PySem.W.Frag} {H : Hp} {Q : VK}
end
/-! triples of ints; triples of a text and two ints -/
abbrev I3 := Int × Int × Int
def v3 (q : I3) : List V := [.int q.1, .int q.2.1, .int q.2.2]
def d3 (q : I3) : PyData := .tuple [.int q.1, .int q.2.1, .int q.2.2]
theorem eqv_int (x y : Int) : PyData.eqv (.int x) (.int y) = decide (x = y) := by
  by_cases c : x = y
  · subst c; simp [PyData.eqv]
  · simp [PyData.eqv, c]
theorem and3_dec {A B C D : Prop} [Decidable A] [Decidable B] [Decidable C] [Decidable D] (h : D ↔ A ∧ B ∧ C) : (decide A && (decide B && (decide C && true))) = decide D := by
  by_cases a : A <;> by_cases b : B <;> by_cases c : C <;> simp [a, b, c, h]
theorem g3 : Gd v3 d3 fun _ => True where
  dp := fun e => .tup (SqT.of e) (.cons (.int _) (.cons (.int _) (.cons (.int _) .nil)))
  lay := fun _ _ => rfl
  dep := fun q => by show (1 : Nat) ≤ 2; decide
  eqv := fun p q => by
    show PyData.eqv (.tuple _) (.tuple _) = _
    rw [PyData.eqv]
    show (PyData.eqv (.int p.1) (.int q.1) && (PyData.eqv (.int p.2.1) (.int q.2.1) && (PyData.eqv (.int p.2.2) (.int q.2.2) && true))) = _
    rw [eqv_int, eqv_int, eqv_int]
    exact and3_dec ⟨fun e => by subst e; exact ⟨rfl, rfl, rfl⟩, fun ⟨a, b, c⟩ => Prod.ext a (Prod.ext b c)⟩
theorem TrsAt.gs {H : Hp} {l : Addr} {ps : List Tr} (h : TrsAt H l ps) : GsAt Tr.v H l ps := by
  obtain ⟨ts, e, t⟩ := h
  refine ⟨ts, e, ?_⟩
  clear e
  induction t with
  | nil => exact .nil
  | cons e _ ih => exact .cons e ih
end Jg
/-! sorted(zip(a, b)) of two lists (own) -/
namespace Jg.Szp
open PySem PySem.Spec PyProof.Rows PySem.W PySem.Calls PyProof.V
/-- a zip while its i-th pair is asked for; S: where the pairs are put -/
def ZSt (z TI TO i1 i2 l1 l2 S : Addr) (xs ys : Array Value) (i : Nat) (h : Heap) : Prop :=
  IsPair h TI (.ref i1) (.ref i2) ∧ h.IsListIter i1 l1 i ∧ h.IsListIter i2 l2 i ∧ h.IsList l1 xs ∧ h.IsList l2 ys ∧
    ((IsZip h z TI TO .none ∧ ∃ a b, IsPair h TO a b) ∨ ∃ T f oT, IsZipHeld h z TI TO T f ∧ h.get? T = some oT ∧ T ≠ z ∧ T ≠ i1 ∧ T ≠ i2 ∧ T ≠ S)
structure ZOff (z TI TO i1 i2 l1 l2 S : Addr) : Prop where
  z : z ≠ S
  TI : TI ≠ S
  TO : TO ≠ S
  i1 : i1 ≠ S
  i2 : i2 ≠ S
  l1 : l1 ≠ S
  l2 : l2 ≠ S
theorem ZSt.keep {z TI TO i1 i2 l1 l2 S : Addr} {xs ys : Array Value} {i : Nat} {h h' : Heap} (o : ZOff z TI TO i1 i2 l1 l2 S) (st : ZSt z TI TO i1 i2 l1 l2 S xs ys i h) (k : ∀ b o, b ≠ S → h.get? b = some o → h'.get? b = some o) : ZSt z TI TO i1 i2 l1 l2 S xs ys i h' := by
  obtain ⟨hTI, h1, h2, hl1, hl2, hz⟩ := st
  refine ⟨k _ _ o.TI hTI, h1.at fun _ e => k _ _ o.i1 e, h2.at fun _ e => k _ _ o.i2 e, hl1.at fun _ e => k _ _ o.l1 e, hl2.at fun _ e => k _ _ o.l2 e, ?_⟩
  rcases hz with ⟨hz, a, b, hTO⟩ | ⟨T, f, oT, hz, hT, r1, r2, r3, r4⟩
  · exact .inl ⟨k _ _ o.z hz, a, b, k _ _ o.TO hTO⟩
  · exact .inr ⟨T, f, oT, k _ _ o.z hz, k _ _ r4 hT, r1, r2, r3, r4⟩
theorem ZSt.type {z TI TO i1 i2 l1 l2 S : Addr} {xs ys : Array Value} {i : Nat} {s : Shared} (st : ZSt z TI TO i1 i2 l1 l2 S xs ys i s.heap) : s.TypeIs (.ref z) "zip" := by
  obtain ⟨_, _, _, _, _, hz⟩ := st
  rcases hz with ⟨hz, _⟩ | ⟨T, f, oT, hz, _⟩
  · exact ⟨_, hz, rfl⟩
  · exact ⟨_, hz, rfl⟩
structure MadeZ (xs ys : Array Value) (lo : Addr) (h : Heap) (as : List Addr) : Prop where
  rise : as.Pairwise (· < ·)
  above : ∀ a ∈ as, lo ≤ a
  pairs : ∀ (j : Nat) (a : Addr), as[j]? = some a → ∃ x y, xs[j]? = some x ∧ ys[j]? = some y ∧ IsPair h a x y
theorem MadeZ.there {xs ys : Array Value} {lo : Addr} {h : Heap} {as : List Addr} (g : MadeZ xs ys lo h as) {a : Addr} (ha : a ∈ as) : a < h.objs.size := by
  obtain ⟨j, hj⟩ := List.mem_iff_getElem?.mp ha
  obtain ⟨_, _, _, _, e⟩ := g.pairs j a hj
  exact Heap.lt_size e
theorem MadeZ.keep {xs ys : Array Value} {lo : Addr} {h h' : Heap} {as : List Addr} (g : MadeZ xs ys lo h as) (k : ∀ a o, lo ≤ a → h.get? a = some o → h'.get? a = some o) : MadeZ xs ys lo h' as :=
  ⟨g.rise, g.above, fun j a hj => let ⟨x, y, e1, e2, e3⟩ := g.pairs j a hj; ⟨x, y, e1, e2, k a _ (g.above a (List.mem_of_getElem? hj)) e3⟩⟩
end Jg.Szp
namespace Jg
open PySem PySem.Spec PyProof.Rows L2
end Jg
/-! sorted of a list of pairs of ints (own). -/
namespace Jg
open PySem PySem.Spec PyProof.Rows L2
theorem TsAt.rows {H : Hp} : ∀ {ts : List Addr} {ps : List (Int × Int)}, TsAt H ts ps → ∃ rs : List (Addr × Int × Int), rs.map (·.1) = ts ∧ rs.map (·.2) = ps ∧ ∀ r ∈ rs, H r.1 = some (.tup [.int r.2.1, .int r.2.2])
  | _, _, .nil => ⟨[], rfl, rfl, fun _ h => nomatch h⟩
  | _, _, .cons (t := t) (a := x) (b := y) e h => by
    obtain ⟨rs, e1, e2, e3⟩ := h.rows
    refine ⟨(t, x, y) :: rs, by rw [List.map_cons, e1], by rw [List.map_cons, e2], fun r hr => ?_⟩
    rcases List.mem_cons.mp hr with rfl | hr
    · exact e
    · exact e3 r hr
end Jg
namespace K54
open PySem PySem.Spec PyProof.Rows L2 Jg
local macro_rules | `(tactic| walk_at "rd1") => `(tactic| (first
  | refine ⟨_, rfl, ?_⟩
  | refine ⟨_, _, rfl, rfl, ?_⟩
  | refine ⟨_, _, rfl, ?_⟩
  | refine ⟨rfl, ?_⟩
  | (refine ⟨show (0 : Int) < _ by omega, ?_⟩)
  | (refine ⟨Or.inl ⟨by omega, by omega⟩, ?_⟩)
  | (refine ⟨Or.inr ⟨by omega, by omega⟩, ?_⟩)
  | (refine ⟨(⟨by decide, by decide, by decide⟩ : CPow _ _), ?_⟩)
  | refine Or.inl ⟨_, rfl, ?_⟩
  | refine Or.inr ⟨_, rfl, ?_⟩
  | fail "rd"))
local macro_rules | `(tactic| walk_at "rd") => `(tactic| repeat' walk_at "rd1")
/-! ### jumps of all kinds, lockouts -/
open K54C (Ct CAt takesB)
def spCIn (PC C : Addr) : Sp := fun vs H Q _ => ∃ p es, vs = [.ref p] ∧ PlAt PC C H p es ∧ ∀ l H', H l = none → Same H H' → H' l = some (.lst (es.map fun e => V.ref e.x)) → Q (.ref l) H'
structure EdC (C : Addr) (H : Hp) (e : Ed) : Prop where
  ct : K54C.CAt (fun _ => True) C H e.x e.c
  ok : K54C.CtOk e.c
theorem EdC.same {C : Addr} {H H' : Hp} {e : Ed} (h : EdC C H e) (s : Same H H') : EdC C H' e := ⟨h.ct.same s, h.ok⟩
theorem EdAt.c {C : Addr} {H : Hp} {e : Ed} (h : EdAt C H e) : EdC C H e := ⟨h.ct, h.ok⟩
def allT (ks : K54F.Ks) (ms : List Int) (zs : List Str) : List Tr := zs.flatMap fun z => (jmps ms (lateK ks z)).map fun q => (z, q.1, q.2)
/-- the names of a fleet, as it tells them -/
def NmsOf (ks : K54F.Ks) (zs : List Str) : Prop := zs.Perm (onceW (ks.map (·.1))) ∧ sortedS zs = true
@[irreducible] def spAllJ (FC KC : Addr) : Sp := fun vs H Q _ => ∃ f l ks cl ms, vs = [.ref f, .ref l] ∧ FlAt FC KC H f ks cl ∧ H l = some (.lst (ms.map V.int)) ∧ 1 ≤ ms.length ∧ ms.length ≤ 8 ∧ ks.length ≤ 5 ∧
  ∀ r zs H', NmsOf ks zs → H r = none → Same H H' → TrsAt H' r (allT ks ms zs) → Q (.ref r) H'
def cAt (es : List Ed) (i : Int) : Ct := match es[i.toNat]? with
  | some e => e.c
  | none => ⟨[], [], 0, []⟩
def lockT (es : List Ed) (ts : List Tr) : List Tr := ts.filter fun q => !takesB (cAt es q.2.1) (cAt es q.2.2)
@[irreducible] def spLocked (C : Addr) : Sp := fun vs H Q _ => ∃ lc lj es ts, vs = [.ref lc, .ref lj] ∧ H lc = some (.lst (es.map fun (e : Ed) => V.ref e.x)) ∧ (∀ e ∈ es, EdC C H e) ∧ TrsAt H lj ts ∧ (∀ q ∈ ts, 0 ≤ q.2.1 ∧ q.2.1 < es.length ∧ 0 ≤ q.2.2 ∧ q.2.2 < es.length) ∧ ts.length ≤ 700 ∧
  ∀ l H', H l = none → Same H H' → TrsAt H' l (lockT es ts) → Q (.ref l) H'
theorem use_allj {FC KC f l : Addr} {ks : K54F.Ks} {cl : List Cl} {ms : List Int} {H : Hp} {Q : VK} {E : XK} (fl : FlAt FC KC H f ks cl) (el : H l = some (.lst (ms.map V.int))) (m1 : 1 ≤ ms.length) (m7 : ms.length ≤ 8) (k5 : ks.length ≤ 5)
    (k : ∀ r zs H', NmsOf ks zs → H r = none → Same H H' → TrsAt H' r (allT ks ms zs) → Q (.ref r) H') : spAllJ FC KC [.ref f, .ref l] H Q E := by
  unfold spAllJ
  exact ⟨f, l, ks, cl, ms, rfl, fl, el, m1, m7, k5, k⟩
theorem use_locked {C lc lj : Addr} {es : List Ed} {ts : List Tr} {H : Hp} {Q : VK} {E : XK} (ec : H lc = some (.lst (es.map fun (e : Ed) => V.ref e.x))) (at_ : ∀ e ∈ es, EdC C H e) (tj : TrsAt H lj ts) (bd : ∀ q ∈ ts, 0 ≤ q.2.1 ∧ q.2.1 < es.length ∧ 0 ≤ q.2.2 ∧ q.2.2 < es.length) (few : ts.length ≤ 700)
    (k : ∀ l H', H l = none → Same H H' → TrsAt H' l (lockT es ts) → Q (.ref l) H') : spLocked C [.ref lc, .ref lj] H Q E := by
  unfold spLocked
  exact ⟨lc, lj, es, ts, rfl, ec, at_, tj, bd, few, k⟩
theorem jmps_few {ms : List Int} {la : Int} (h : ms.length ≤ 8) : (jmps ms la).length ≤ 64 := by
  have a := jmUp_len (ms := ms) (la := la) (ms.length - 1)
  have b : (ms.length - 1) * ms.length ≤ 8 * 8 := Nat.mul_le_mul (by omega) h
  unfold jmps
  omega
theorem allT_few {ks : K54F.Ks} {ms : List Int} (h : ms.length ≤ 8) : ∀ zs : List Str, (allT ks ms zs).length ≤ zs.length * 64
  | [] => Nat.zero_le _
  | z :: zs => by
    have a := allT_few (ks := ks) h zs
    have b := jmps_few (la := lateK ks z) h
    show (((jmps ms (lateK ks z)).map fun q => (z, q.1, q.2)) ++ allT ks ms zs).length ≤ (zs.length + 1) * 64
    rw [List.length_append, List.length_map]
    omega
theorem allT_mem {ks : K54F.Ks} {ms : List Int} {zs : List Str} {q : Tr} (h : q ∈ allT ks ms zs) : q.1 ∈ zs ∧ (q.2.1, q.2.2) ∈ jmps ms (lateK ks q.1) := by
  obtain ⟨z, hz, m⟩ := List.mem_flatMap.mp h
  obtain ⟨p, hp, rfl⟩ := List.mem_map.mp m
  exact ⟨hz, hp⟩
theorem allT_more {ks : K54F.Ks} {ms : List Int} {zs : List Str} {i : Nat} {z : Str} (h : zs[i]? = some z) : allT ks ms (zs.take (i + 1)) = allT ks ms (zs.take i) ++ (jmps ms (lateK ks z)).map fun q => (z, q.1, q.2) := by
  unfold allT
  rw [List.take_succ, h, List.flatMap_append]
  show _ ++ (_ ++ []) = _
  rw [List.append_nil]
theorem nms_few {ks : K54F.Ks} {zs : List Str} (h : NmsOf ks zs) : zs.length ≤ ks.length := by
  have a := h.1.length_eq
  have b := onceW_len (ks.map (·.1))
  rw [List.length_map] at b
  omega
theorem lock_yes {es : List Ed} {ts : List Tr} {i : Nat} {q : Tr} (h : ts[i]? = some q) (y : takesB (cAt es q.2.1) (cAt es q.2.2) = false) : lockT es (ts.take (i + 1)) = lockT es (ts.take i) ++ [q] := by
  unfold lockT
  rw [List.take_succ, h, List.filter_append]
  congr 1
  show List.filter _ [q] = [q]
  rw [List.filter_cons_of_pos (by rw [y]; rfl)]; rfl
theorem lock_no {es : List Ed} {ts : List Tr} {i : Nat} {q : Tr} (h : ts[i]? = some q) (y : takesB (cAt es q.2.1) (cAt es q.2.2) = true) : lockT es (ts.take (i + 1)) = lockT es (ts.take i) := by
  unfold lockT
  rw [List.take_succ, h, List.filter_append]
  show _ ++ List.filter _ [q] = _
  rw [List.filter_cons_of_neg (by rw [y]; decide)]
  exact List.append_nil _
section
variable {P : Program} {w : World} {K : PySem.W.Frag} {mg : Str → Option Value} {base : Heap} {C PC CU CE CM RC FC KC : Addr}
abbrev s_contents_in : Stmt := top 41
theorem sc_contents_in : FnScope ["plan", "number"] ["plan"] (defScope s_contents_in) := ⟨rfl, rfl, rfl, by decide +kernel, rfl, by decide +kernel, by decide +kernel⟩
theorem ok_cin (D : DefK K mg "contents_in" s_contents_in) (T : TxP K mg) (PT : PTx K mg PC) (M_plen : Met P w K mg base CX0 1 PC "__len__" (spPLen PC C)) (M_co : Met P w K mg base (L2.CX P w) 5 PC "contents_of" (spPOf K PC C CE fun e => .ref e.x)) : Cal P w K mg base CX0 6 "contents_in" (spCIn PC C) := by
  refine D.cal sc_contents_in (fun _ _ _ _ _ _ us hl => match us, hl with | [_], _ => rfl) (fun vs H Q E h => ?_) fun f0 cdv A outer s H vs Q E hr h => ?_
  · obtain ⟨p, es, rfl, _⟩ := h; rfl
  · obtain ⟨p, es, rfl, pl, k⟩ := h
    refine ⟨_, (pss_one (ps_ret (pe_lc (own := [("number", 1)]) (g := gName 1) (by rfl) sc_contents_in.nd (pi_range1 (by rfl) T.b_range (pa_cons (pe_callB (call_lenO M_plen hr (by decide)) (by rfl) T.b_len (by decide +kernel) (pa_cons (pv 0) pa_nil)) pa_nil)) (blkOk_by (own := [("number", 1)]) (N := ["plan", "number"]) (sc := defScope s_contents_in) (by decide +kernel)) (fun _ _ _ _ _ => pg_name (i := 1) sc_contents_in.nd rfl (Or.inl rfl)) (fun _ _ _ _ _ => pts_nil) (fun _ _ _ _ _ => (pe_mS M_co PT.cl takes0 hr (by decide) (pv 0) (pa_cons (pv 1) pa_nil)))))), ?_⟩
    obtain ⟨dxp, lp, ep, elp⟩ := id pl.ex
    have n7 := pl.ok.n7
    refine ⟨_, rfl, p, dxp, _, rfl, ep, p, es, rfl, pl, es.length, rfl, by omega, by omega, _, rfl, by omega, by omega, fun D nD => ?_⟩
    rw [show ((es.length : Nat) : Int).toNat = es.length from rfl]
    refine lc_range (lo := 0) (n := es.length) (fun i H' => H' D = some (.lst ((es.take i).map fun e => V.ref e.x)) ∧ Same H H') ⟨upd_same, same_new nD⟩ ?_ ?_
    · rintro i H' hi ⟨eD, s'⟩
      obtain ⟨e, he⟩ : ∃ e, es[i]? = some e := ⟨_, List.getElem?_eq_getElem hi⟩
      have tk : es.take (i + 1) = es.take i ++ [e] := by rw [List.take_succ, he]; rfl
      have pt := List.length_take_le i es
      have ps := pl.same s'
      obtain ⟨dx2, lp2, ep2, _⟩ := id ps.ex
      refine ⟨rfl, K54C.yes_if ?_⟩
      refine ⟨_, rfl, p, dx2, _, rfl, ep2, get_eno _ (by decide +kernel), _, rfl, p, es, _, rfl, ps, .inl ⟨i, e, by rw [Int.zero_add], he, _, eD, by rw [List.length_map, sizeLine_eq]; omega, ?_, same_mut s' nD⟩⟩
      rw [upd_same, tk, List.map_append]; rfl
    · rintro H' ⟨eD, s'⟩
      rw [List.take_length] at eD
      exact k D H' nD s' eD
abbrev s_all_jumps : Stmt := top 59
theorem sc_all_jumps : FnScope ["fleet", "moments", "found", "kind", "pair"] ["fleet", "moments"] (defScope s_all_jumps) := ⟨rfl, rfl, rfl, by decide +kernel, rfl, by decide +kernel, by decide +kernel⟩
theorem ok_allj (D : DefK K mg "all_jumps" s_all_jumps) (TF : K54F.FTx K mg FC) (M_names : Met P w K mg base CX0 1 FC "names" (K54F.spNames FC KC)) (M_late : Met P w K mg base (L2.CX P w) 5 FC "lateness" (K54F.spLate K FC KC CU)) (G_jump_pairs : Cal P w K mg base CX0 2 "jump_pairs" spJmPairs) : Cal P w K mg base CX0 6 "all_jumps" (spAllJ FC KC) := by
  refine D.cal sc_all_jumps (fun _ _ _ _ _ _ us hl => match us, hl with | [_, _], _ => rfl) (fun vs H Q E h => ?_) fun f0 cdv A outer s H vs Q E hr h => ?_
  · unfold spAllJ at h; obtain ⟨f, l, ks, cl, ms, rfl, _⟩ := h; rfl
  · unfold spAllJ at h; obtain ⟨f, l, ks, cl, ms, rfl, fl, el, m1, m7, k5, k⟩ := h
    refine ⟨_, (pss_cons (ps_set (i := 2) sc_all_jumps.nd rfl (Or.inl rfl) (pe_lst pa_nil))
      (pss_cons (ps_for PassesOwn.never rfl (pi_list (pe_mz M_names TF.cl hr (by decide) (pv 0))) (pg_name (i := 3) sc_all_jumps.nd rfl (Or.inr rfl)) (pss_one (ps_set (i := 2) sc_all_jumps.nd rfl (Or.inl rfl) (pe_op op_cat (pv 2) (pe_lc (own := [("pair", 4)]) (g := gName 4) (by rfl) sc_all_jumps.nd (pi_list (pe_c G_jump_pairs hr (by decide) rfl (pa_cons (pv 1) (pa_cons (pe_mS M_late TF.cl takes0 hr (by decide) (pv 0) (pa_cons (pv 3) pa_nil)) pa_nil)))) (blkOk_by (own := [("pair", 4)]) (N := ["fleet", "moments", "found", "kind", "pair"]) (sc := defScope s_all_jumps) (by decide +kernel)) (fun _ _ _ _ _ => pg_name (i := 4) sc_all_jumps.nd rfl (Or.inl rfl)) (fun _ _ _ _ _ => pts_nil) (fun _ _ _ _ _ => (pe_tup (pa_cons (pv 3) (show PA _ _ (StX.tStar K (tVar 4) tNil) from StX.pa_star (pv 4) pa_nil)))))))))
      (pss_one (ps_ret (pv 2))))), ?_⟩
    obtain ⟨d, cc, fa⟩ := id fl.ex
    obtain ⟨dxf, ef⟩ := id fa.at_
    refine ⟨by show 0 ≤ sizeLine; decide, fun f1 n1 => ?_⟩
    have g1 := same_new (o := .lst []) n1
    refine ⟨_, rfl, f, dxf, _, rfl, g1 _ _ ef, K54F.get_fno _ _ (by decide +kernel) (by decide +kernel), f, d, cc, ks, _, rfl, fa.keep g1, k5, fun ln zs H2 pz sz nl s2 eln => ?_⟩
    have s02 := g1.trans s2
    have nm : NmsOf ks zs := ⟨pz, sz⟩
    have zl : zs.length ≤ 5 := by
      have a := pz.length_eq
      have b := onceW_len (ks.map (·.1))
      rw [List.length_map] at b
      omega
    have zm : ∀ z ∈ zs, z ∈ ks.map (·.1) := fun z hz => onceW_mem.mp (pz.subset hz)
    refine ⟨ln, rfl, ⟨_, SqL.of eln⟩, for_list (K := K) (a := ln) (xs := zs.map V.str) (fun i sg H' => ∃ (v3 v4 : Option V) (r : Addr), sg = [some (.ref f), some (.ref l), some (.ref r), v3, v4] ∧ Same H H' ∧ Same H2 H' ∧ H r = none ∧ TrsAt H' r (allT ks ms (zs.take i))) ⟨_, _, f1, rfl, s02, .refl _, n1, [], s2 _ _ upd_same, .nil⟩ (fun i _ H' _ ⟨_, _, _, _, _, s', _⟩ => SqL.of (s' _ _ eln)) ?_ ?_⟩
    · rintro i y sg H3 hy ⟨v3, v4, r, rfl, s3, s23, nr, tr⟩
      obtain ⟨z, hz, rfl⟩ : ∃ z, zs[i]? = some z ∧ y = .str z := by
        rw [List.getElem?_map] at hy
        cases c : zs[i]? with
        | none => rw [c] at hy; cases hy
        | some z => rw [c] at hy; exact ⟨z, rfl, (Option.some.inj hy).symm⟩
      obtain ⟨us, er, tu⟩ := tr
      have il := (List.getElem?_eq_some_iff.mp hz).1
      refine ⟨_, rfl, _, rfl, _, rfl, f, dxf, _, rfl, s3 _ _ ef, K54F.get_fno _ _ (by decide +kernel) (by decide +kernel), _, rfl, f, d, cc, .str z, ks, _, rfl, fa.keep s3, fl.wd, fl.fed, .inl ⟨z, rfl, zm z (List.mem_of_getElem? hz), fun H4 s4 => ⟨l, ms, _, rfl, s4 _ _ (s3 _ _ el), m1, by omega, fun lp H5 np s5 tp => ?_⟩⟩⟩
      obtain ⟨up, ep, tp⟩ := tp
      have tp : TsAt H5 up (jmps ms (lateK ks z)) := tp
      have s35 := s4.trans s5
      refine ⟨lp, rfl, ⟨_, SqL.of ep⟩, fun D nD => ?_⟩
      refine lc_list (K := K) (a := lp) (xs := up.map V.ref) (fun j H' => TrsAt H' D (((jmps ms (lateK ks z)).take j).map fun q => (z, q.1, q.2)) ∧ Same H5 H') ⟨⟨[], upd_same, .nil⟩, same_new nD⟩ (fun j H' _ ⟨_, s'⟩ => SqL.of (s' _ _ ep)) ?_ ?_
      · rintro j y H' hj ⟨tD, s'⟩
        obtain ⟨t, ht, rfl⟩ : ∃ t, up[j]? = some t ∧ y = .ref t := by
          rw [List.getElem?_map] at hj
          cases c : up[j]? with
          | none => rw [c] at hj; cases hj
          | some t => rw [c] at hj; exact ⟨t, rfl, (Option.some.inj hj).symm⟩
        obtain ⟨q, hq, et⟩ := tp.at_ ht
        have jl := (List.getElem?_eq_some_iff.mp hq).1
        have j49 := jmps_few (la := lateK ks z) m7
        have tk : (jmps ms (lateK ks z)).take (j + 1) = (jmps ms (lateK ks z)).take j ++ [q] := by rw [List.take_succ, hq]; rfl
        obtain ⟨uD, eD, tt⟩ := tD
        have ul := tt.len
        rw [List.length_map, List.length_take] at ul
        refine ⟨rfl, K54C.yes_if ?_⟩
        refine ⟨_, rfl, _, rfl, t, _, rfl, .inl (SqT.of (s' _ _ et)), by show 3 ≤ sizeLine; decide, fun t2 n2 => ?_⟩
        have g2 := same_new (o := .tup [.str z, .int q.1, .int q.2]) n2
        refine ⟨_, g2 _ _ eD, by rw [List.length_map, sizeLine_eq]; omega, ?_, same_mut (s'.trans g2) nD⟩
        rw [tk, List.map_append]
        exact TrsAt.push (q := (z, q.1, q.2)) (g2 _ _ eD) (tt.same g2) upd_same
      · rintro H6 ⟨tD, s6⟩
        rw [List.length_map, tp.len, List.take_length] at tD
        obtain ⟨uD, eD, tt⟩ := tD
        have s36 := s35.trans s6
        have j49 := jmps_few (la := lateK ks z) m7
        have a5 := allT_few (ks := ks) m7 (zs.take i)
        have l1 := tu.len
        have l2 := tt.len
        rw [List.length_map] at l2
        rw [List.length_take] at a5
        refine ⟨r, D, _, _, rfl, rfl, s36 _ _ er, eD, by rw [List.length_map, List.length_map, sizeLine_eq]; omega, fun r2 nr2 => ?_⟩
        have g := same_new (o := .lst (us.map V.ref ++ uD.map V.ref)) nr2
        refine ⟨_, _, r2, rfl, (s3.trans s36).trans g, (s23.trans s36).trans g, (s3.trans s36).free nr2, us ++ uD, by rw [upd_same, List.map_append], ?_⟩
        rw [allT_more hz]
        exact ((tu.same s36).app tt).same g
    · rintro sg H3 ⟨v3, v4, r, rfl, s3, s23, nr, tr⟩
      rw [List.length_map, List.take_length] at tr
      exact ⟨_, rfl, k r zs H3 nm nr s3 tr⟩
abbrev s_locked_out : Stmt := top 62
theorem sc_locked_out : FnScope ["contents", "jumped", "kind", "early", "late"] ["contents", "jumped"] (defScope s_locked_out) := ⟨rfl, rfl, rfl, by decide +kernel, rfl, by decide +kernel, by decide +kernel⟩
theorem ok_locked (D : DefK K mg "locked_out" s_locked_out) (J : K54C.CTx K mg C) (M_takes : Met P w K mg base CX0 1 C "takes" (K54C.spTakes C)) : Cal P w K mg base CX0 2 "locked_out" (spLocked C) := by
  refine D.cal sc_locked_out (fun _ _ _ _ _ _ us hl => match us, hl with | [_, _], _ => rfl) (fun vs H Q E h => ?_) fun f0 cdv A outer s H vs Q E hr h => ?_
  · unfold spLocked at h; obtain ⟨lc, lj, es, ts, rfl, _⟩ := h; rfl
  · unfold spLocked at h; obtain ⟨lc, lj, es, ts, rfl, ec, at_, tj, bd, few, k⟩ := h
    refine ⟨_, (pss_one (ps_ret (pe_lc (own := [("kind", 2), ("early", 3), ("late", 4)]) (g := gTup K 3 (gCons (gName 2) (gCons (gName 3) (gCons (gName 4) gNil)))) (by rfl) sc_locked_out.nd (pi_list (pv 1)) (blkOk_by (own := [("kind", 2), ("early", 3), ("late", 4)]) (N := ["contents", "jumped", "kind", "early", "late"]) (sc := defScope s_locked_out) (by decide +kernel)) (fun _ _ _ _ _ => pg_tup rfl (pgs_cons (pg_name (i := 2) sc_locked_out.nd rfl (Or.inl rfl)) (pgs_cons (pg_name (i := 3) sc_locked_out.nd rfl (Or.inl rfl)) (pgs_cons (pg_name (i := 4) sc_locked_out.nd rfl (Or.inl rfl)) pgs_nil)))) (fun _ _ _ _ _ => (pts_one (pt_not (pt_val (pe_m M_takes J.cl hr (by decide) (pe_ix (r := rIxL K) ix_list (pv 0) (pv 3) (fun _ _ => rfl)) (pa_cons (pe_ix (r := rIxL K) ix_list (pv 0) (pv 4) (fun _ _ => rfl)) pa_nil)))))) (fun _ _ _ _ _ => (pe_tup (pa_cons (pv 2) (pa_cons (pv 3) (pa_cons (pv 4) pa_nil)))))))), ?_⟩
    obtain ⟨us, ej, tt⟩ := id tj
    refine ⟨_, rfl, lj, rfl, ⟨_, SqL.of ej⟩, fun D nD => ?_⟩
    refine lc_list (K := K) (a := lj) (xs := us.map V.ref) (fun i H' => TrsAt H' D (lockT es (ts.take i)) ∧ Same H H') ⟨⟨[], upd_same, .nil⟩, same_new nD⟩ (fun i H' _ ⟨_, s'⟩ => SqL.of (s' _ _ ej)) ?_ ?_
    · rintro i y H' hy ⟨tD, s'⟩
      obtain ⟨t, ht, rfl⟩ : ∃ t, us[i]? = some t ∧ y = .ref t := by
        rw [List.getElem?_map] at hy
        cases c : us[i]? with
        | none => rw [c] at hy; cases hy
        | some t => rw [c] at hy; exact ⟨t, rfl, (Option.some.inj hy).symm⟩
      obtain ⟨q, hq, et⟩ := tt.at_ ht
      have il := (List.getElem?_eq_some_iff.mp hq).1
      obtain ⟨b1, b2, b3, b4⟩ := bd q (List.mem_of_getElem? hq)
      obtain ⟨z, a, b⟩ := q
      have b1 : 0 ≤ a := b1
      have b2 : a < es.length := b2
      have b3 : 0 ≤ b := b3
      have b4 : b < es.length := b4
      obtain ⟨m, rfl⟩ : ∃ m : Nat, a = (m : Int) := ⟨a.toNat, by omega⟩
      obtain ⟨n, rfl⟩ : ∃ n : Nat, b = (n : Int) := ⟨b.toNat, by omega⟩
      obtain ⟨e1, he1⟩ : ∃ e, es[m]? = some e := ⟨_, List.getElem?_eq_getElem (by omega)⟩
      obtain ⟨e2, he2⟩ : ∃ e, es[n]? = some e := ⟨_, List.getElem?_eq_getElem (by omega)⟩
      have A1 := (at_ e1 (List.mem_of_getElem? he1)).same s'
      have A2 := (at_ e2 (List.mem_of_getElem? he2)).same s'
      have c1 : cAt es (m : Int) = e1.c := by unfold cAt; rw [Int.toNat_natCast, he1]
      have c2 : cAt es (n : Int) = e2.c := by unfold cAt; rw [Int.toNat_natCast, he2]
      obtain ⟨uD, eD, tD⟩ := tD
      have ul := tD.len
      have fl8 : (lockT es (ts.take i)).length ≤ (ts.take i).length := List.length_filter_le _ _
      rw [List.length_take] at fl8
      obtain ⟨dx1, d1, v1, s1, x1, _⟩ := A1.ct.ex
      have si5 : e2.c.si.length ≤ 500 := by have := A2.ok.si.le; omega
      refine ⟨t, _, rfl, SqT.of (s' _ _ et), rfl, _, _, rfl, _, _, rfl, _, _, rfl, rfl, rfl, ?_⟩
      refine ⟨_, rfl, _, rfl, lc, _, _, .ref e1.x, rfl, rfl, SqL.of (s' _ _ ec), atI_nat (j := m) (by rw [List.getElem?_map, he1]; rfl), e1.x, dx1, _, rfl, x1, K54C.get_no _ _ _ _ (by decide +kernel) (by decide +kernel) (by decide +kernel) (by decide +kernel), _, rfl, _, rfl, lc, _, _, .ref e2.x, rfl, rfl, SqL.of (s' _ _ ec), atI_nat (j := n) (by rw [List.getElem?_map, he2]; rfl), e1.x, e2.x, e1.c, e2.c, _, _, rfl, A1.ct, A2.ct, si5, fun H2 s2 => ⟨_, rfl, ?_⟩⟩
      cases y : takesB e1.c e2.c with
      | true =>
        refine iteF ⟨?_, s'.trans s2⟩
        rw [lock_no hq (by rw [c1, c2]; exact y)]
        exact ⟨uD, s2 _ _ eD, tD.same s2⟩
      | false =>
        refine iteT ⟨_, rfl, _, rfl, _, rfl, by show 3 ≤ sizeLine; decide, fun t2 n2 => ?_⟩
        have g2 := same_new (o := .tup [.str z, .int (m : Int), .int (n : Int)]) n2
        have s2g := s2.trans g2
        refine ⟨_, s2g _ _ eD, by rw [List.length_map, sizeLine_eq]; omega, ?_, same_mut (s'.trans s2g) nD⟩
        rw [lock_yes hq (by rw [c1, c2]; exact y)]
        exact TrsAt.push (q := (z, (m : Int), (n : Int))) (s2g _ _ eD) (tD.same s2g) upd_same
    · rintro H' ⟨tD, s'⟩
      rw [List.length_map, tt.len, List.take_length] at tD
      exact k D H' nD s' tD
end
end K54
namespace K54
open PySem PySem.Spec PyProof.Rows L2 Jg
local macro_rules | `(tactic| walk_at "rd1") => `(tactic| (first
  | refine ⟨_, rfl, ?_⟩
  | refine ⟨_, _, rfl, rfl, ?_⟩
  | refine ⟨_, _, rfl, ?_⟩
  | refine ⟨rfl, ?_⟩
  | (refine ⟨show (0 : Int) < _ by omega, ?_⟩)
  | (refine ⟨Or.inl ⟨by omega, by omega⟩, ?_⟩)
  | (refine ⟨Or.inr ⟨by omega, by omega⟩, ?_⟩)
  | (refine ⟨(⟨by decide, by decide, by decide⟩ : CPow _ _), ?_⟩)
  | refine Or.inl ⟨_, rfl, ?_⟩
  | refine Or.inr ⟨_, rfl, ?_⟩
  | fail "rd"))
local macro_rules | `(tactic| walk_at "rd") => `(tactic| repeat' walk_at "rd1")
open K54C (Ct CAt Use)
/-! ### what a call shows, and when it meets what is held -/
def comR (ms : List Int) (la lb li : Int) (i j : Nat) : Int × Int := K54R.andR (spanR ms i (la - 2 + li)) (spanR ms j (lb - 2))
def meetB (ms : List Int) (la lb li : Int) (i j : Nat) : Bool := decide ((comR ms la lb li i j).1 ≤ (comR ms la lb li i j).2)
/-- bounds of all that is reckoned with -/
structure BdOk (ms : List Int) (la lb li : Int) : Prop where
  m : ∀ m ∈ ms, K54R.Bnd m
  a : ∀ m ∈ ms, K54R.Bnd (m + (la - 2 + li))
  b : ∀ m ∈ ms, K54R.Bnd (m + (lb - 2))
def spShown (RC : Addr) : Sp := fun vs H Q _ => ∃ l ms n la li, vs = [.ref l, .int (n : Nat), .int la, .int li] ∧ H l = some (.lst (ms.map V.int)) ∧ n < ms.length ∧ (∀ m ∈ ms, K54R.Bnd m ∧ K54R.Bnd (m + (la - 2 + li))) ∧
  ∀ x H', H x = none → Same H H' → K54R.RAt RC H' x (spanR ms n (la - 2 + li)) → Q (.ref x) H'
@[irreducible] def spCom (FC KC RC : Addr) : Sp := fun vs H Q _ => ∃ f ks cl q l ms i j, vs = [.ref f, .ref q.t, .ref l, .int (i : Nat), .int (j : Nat)] ∧ FlAt FC KC H f ks cl ∧ q ∈ cl ∧ q.a ∈ ks.map (·.1) ∧ q.b ∈ ks.map (·.1) ∧ H l = some (.lst (ms.map V.int)) ∧ i < ms.length ∧ j < ms.length ∧ BdOk ms (lateK ks q.a) (lateK ks q.b) q.i ∧
  ∀ x H', H x = none → Same H H' → K54R.RAt RC H' x (comR ms (lateK ks q.a) (lateK ks q.b) q.i i j) → Q (.ref x) H'
theorem span_rng {ms : List Int} {n : Nat} {d : Int} (lt : n < ms.length) (b : ∀ m ∈ ms, K54R.Bnd m ∧ K54R.Bnd (m + d)) : K54R.RngOk (spanR ms n d) := by
  unfold spanR
  refine K54R.rng_mk (b _ (ms_mem lt)).1 ?_
  by_cases c : n + 1 = ms.length
  · rw [if_pos c]; trivial
  · rw [if_neg c]; exact (b _ (ms_mem (by omega))).2
section
variable {P : Program} {w : World} {K : PySem.W.Frag} {mg : Str → Option Value} {base : Heap} {C PC CU CE RC FC KC : Addr}
abbrev s_shown_span : Stmt := top 54
theorem sc_shown_span : FnScope ["moments", "number", "lateness", "life"] ["moments", "number", "lateness", "life"] (defScope s_shown_span) := ⟨rfl, rfl, rfl, by decide +kernel, rfl, by decide +kernel, by decide +kernel⟩
theorem ok_shown (D : DefK K mg "shown_span" s_shown_span) (G_span : Cal P w K mg base CX0 5 "span" (spSpan RC)) : Cal P w K mg base CX0 6 "shown_span" (spShown RC) := by
  refine D.cal sc_shown_span (fun _ _ _ _ _ _ us hl => match us, hl with | [_, _, _, _], _ => rfl) (fun vs H Q E h => ?_) fun f cdv A outer s H vs Q E hr h => ?_
  · obtain ⟨l, ms, n, la, li, rfl, _⟩ := h; rfl
  · obtain ⟨l, ms, n, la, li, rfl, el, lt, bd, k⟩ := h
    refine ⟨_, (pss_one (ps_ret (pe_c G_span hr (by decide) rfl (pa_cons (pv 0) (pa_cons (pv 1) (pa_cons (pe_op op_add (pe_op op_sub (pv 2) pe_int) (pv 3)) pa_nil)))))), ?_⟩
    exact ⟨_, rfl, _, rfl, _, rfl, _, _, rfl, rfl, _, rfl, _, _, rfl, rfl, l, ms, n, la - 2 + li, rfl, el, lt, bd, k⟩
abbrev s_common_span : Stmt := top 56
theorem sc_common_span : FnScope ["fleet", "call", "moments", "made_in", "shown_to", "shown", "_", "client", "server", "life"] ["fleet", "call", "moments", "made_in", "shown_to"] (defScope s_common_span) := ⟨rfl, rfl, rfl, by decide +kernel, rfl, by decide +kernel, by decide +kernel⟩
theorem ok_com (D : DefK K mg "common_span" s_common_span) (TF : K54F.FTx K mg FC) (RT : K54R.Txt K mg RC) (M_late : Met P w K mg base (L2.CX P w) 5 FC "lateness" (K54F.spLate K FC KC CU)) (G_shown_span : Cal P w K mg base CX0 6 "shown_span" (spShown RC)) (G_held_span : Cal P w K mg base CX0 6 "held_span" (spHSpan RC)) (M_and : Met P w K mg base CX0 7 RC "__and__" (K54R.spAnd RC)) : Cal P w K mg base CX0 8 "common_span" (spCom FC KC RC) := by
  refine D.cal sc_common_span (fun _ _ _ _ _ _ us hl => match us, hl with | [_, _, _, _, _], _ => rfl) (fun vs H Q E h => ?_) fun f0 cdv A outer s H vs Q E hr h => ?_
  · unfold spCom at h; obtain ⟨f, ks, cl, q, l, ms, i, j, rfl, _⟩ := h; rfl
  · unfold spCom at h; obtain ⟨f, ks, cl, q, l, ms, i, j, rfl, fl, hq, ma, mb, el, li, lj, bd, k⟩ := h
    refine ⟨_, (pss_cons (ps_asg (pv 1) (pg_tup rfl (pgs_cons (pg_name (i := 6) sc_common_span.nd rfl (Or.inl rfl)) (pgs_cons (pg_name (i := 7) sc_common_span.nd rfl (Or.inl rfl)) (pgs_cons (pg_name (i := 8) sc_common_span.nd rfl (Or.inl rfl)) (pgs_cons (pg_name (i := 9) sc_common_span.nd rfl (Or.inl rfl)) pgs_nil))))))
      (pss_cons (ps_set (i := 5) sc_common_span.nd rfl (Or.inl rfl) (pe_c G_shown_span hr (by decide) rfl (pa_cons (pv 2) (pa_cons (pv 3) (pa_cons (pe_mS M_late TF.cl takes0 hr (by decide) (pv 0) (pa_cons (pv 7) pa_nil)) (pa_cons (pv 9) pa_nil))))))
      (pss_one (ps_ret (pe_op (op_b M_and RT.sf hr (by decide)) (pv 5) (pe_c G_held_span hr (by decide) rfl (pa_cons (pv 2) (pa_cons (pv 4) (pa_cons (pe_mS M_late TF.cl takes0 hr (by decide) (pv 0) (pa_cons (pv 8) pa_nil)) pa_nil))))))))), ?_⟩
    obtain ⟨d, cc, fa⟩ := id fl.ex
    obtain ⟨dxf, ef⟩ := id fa.at_
    refine ⟨_, rfl, q.t, _, rfl, SqT.of (fl.tp q hq), rfl, _, _, rfl, _, _, rfl, _, _, rfl, _, _, rfl, rfl, ?_⟩
    refine ⟨_, rfl, _, rfl, _, rfl, f, dxf, _, rfl, ef, K54F.get_fno _ _ (by decide +kernel) (by decide +kernel), _, rfl, f, d, cc, .str q.a, ks, _, rfl, fa, fl.wd, fl.fed, .inl ⟨q.a, rfl, ma, fun H1 s1 => ?_⟩⟩
    refine ⟨_, rfl, l, ms, i, lateK ks q.a, q.i, rfl, s1 _ _ el, li, fun m hm => ⟨bd.m m hm, bd.a m hm⟩, fun x H2 nx s2 rx => ?_⟩
    have s12 := s1.trans s2
    refine ⟨_, rfl, _, rfl, _, rfl, _, rfl, f, dxf, _, rfl, s12 _ _ ef, K54F.get_fno _ _ (by decide +kernel) (by decide +kernel), _, rfl, f, d, cc, .str q.b, ks, _, rfl, fa.keep s12, fl.wd, fl.fed, .inl ⟨q.b, rfl, mb, fun H3 s3 => ?_⟩⟩
    have s13 := s12.trans s3
    refine ⟨l, ms, j, lateK ks q.b, rfl, s13 _ _ el, lj, fun m hm => ⟨bd.m m hm, bd.b m hm⟩, fun y H4 ny s4 ry => ?_⟩
    obtain ⟨dxx, ex⟩ := rx
    have ex4 := (s3.trans s4) _ _ ex
    obtain ⟨dyy, ey⟩ := id ry
    exact ⟨x, y, dxx, _, dyy, _, rfl, rfl, ex4, ey, x, y, _, _, rfl, ⟨dxx, ex4⟩, ry, span_rng li fun m hm => ⟨bd.m m hm, bd.a m hm⟩, span_rng lj fun m hm => ⟨bd.m m hm, bd.b m hm⟩, fun r H5 nr s5 rr => k r H5 ((s13.trans s4).free nr) ((s13.trans s4).trans s5) rr⟩
end
end K54
namespace K54
open PySem PySem.Spec PyProof.Rows L2 Jg
local macro_rules | `(tactic| walk_at "rd1") => `(tactic| (first
  | refine ⟨_, rfl, ?_⟩
  | refine ⟨_, _, rfl, rfl, ?_⟩
  | refine ⟨_, _, rfl, ?_⟩
  | refine ⟨rfl, ?_⟩
  | (refine ⟨show (0 : Int) < _ by omega, ?_⟩)
  | (refine ⟨Or.inl ⟨by omega, by omega⟩, ?_⟩)
  | (refine ⟨Or.inr ⟨by omega, by omega⟩, ?_⟩)
  | (refine ⟨(⟨by decide, by decide, by decide⟩ : CPow _ _), ?_⟩)
  | refine Or.inl ⟨_, rfl, ?_⟩
  | refine Or.inr ⟨_, rfl, ?_⟩
  | fail "rd"))
local macro_rules | `(tactic| walk_at "rd") => `(tactic| repeat' walk_at "rd1")
open K54C (Ct CAt Use)
/-! ### the pairs of editions that meet -/
theorem rng_walk {lo : Int} {n : Nat} {H0 : Hp} {Qd : Hp → Prop} {B : V → Hp → (Hp → Prop) → Prop} (Pv : Nat → Hp → Prop) (h0 : Pv 0 H0) (hs : ∀ i H, i < n → Pv i H → B (.int (lo + i)) H (Pv (i + 1))) (hd : ∀ H, Pv n H → Qd H) :
    ∃ W : Nat → Nat → Hp → Prop, (∃ m, W 0 m H0) ∧ ∀ i m H, W i m H → ((Itr lo n).stop i H ∧ Qd H) ∨ ((Itr lo n).go i H ∧ ∃ Nx : Hp → Prop, (∀ H', Nx H' → ∃ m', m' < m ∧ W (i + 1) m' H') ∧ ∀ x H', (Itr lo n).yld i H x H' → B x H' Nx) := by
  refine ⟨fun i m H => m = n - i ∧ i ≤ n ∧ Pv i H, ⟨n, by simp, Nat.zero_le _, h0⟩, ?_⟩
  rintro i m H ⟨rfl, hi, p⟩
  by_cases hlt : i < n
  · refine .inr ⟨hlt, Pv (i + 1), fun H' p' => ⟨n - (i + 1), by omega, rfl, hlt, p'⟩, fun x H' y => ?_⟩
    obtain ⟨e, y⟩ := y
    subst e y
    exact hs i _ hlt p
  · have e : i = n := by omega
    subst e
    exact .inl ⟨Nat.le_refl _, hd H p⟩
def mRow (ms : List Int) (la lb li : Int) (i n : Nat) : List (Int × Int) := ((List.range n).filter (meetB ms la lb li i)).map fun j => ((i : Int), ((j : Nat) : Int))
def mUp (ms : List Int) (la lb li : Int) (n : Nat) : List (Int × Int) := (List.range n).flatMap fun i => mRow ms la lb li i ms.length
def mPairs (ms : List Int) (la lb li : Int) : List (Int × Int) := mUp ms la lb li ms.length
theorem mRow_len {ms : List Int} {la lb li : Int} {i n : Nat} : (mRow ms la lb li i n).length ≤ n := by
  unfold mRow
  rw [List.length_map]
  have := List.length_filter_le (meetB ms la lb li i) (List.range n)
  rw [List.length_range] at this; exact this
theorem mUp_more {ms : List Int} {la lb li : Int} {n : Nat} : mUp ms la lb li (n + 1) = mUp ms la lb li n ++ mRow ms la lb li n ms.length := by
  unfold mUp
  rw [List.range_succ, List.flatMap_append, List.flatMap_cons, List.flatMap_nil, List.append_nil]
theorem mUp_len {ms : List Int} {la lb li : Int} : ∀ n, (mUp ms la lb li n).length ≤ n * ms.length
  | 0 => Nat.zero_le _
  | n + 1 => by
    rw [mUp_more, List.length_append, Nat.add_mul]
    have a := mUp_len (ms := ms) (la := la) (lb := lb) (li := li) n
    have b := mRow_len (ms := ms) (la := la) (lb := lb) (li := li) (i := n) (n := ms.length)
    omega
theorem mRow_yes {ms : List Int} {la lb li : Int} {i j : Nat} (h : meetB ms la lb li i j = true) : mRow ms la lb li i (j + 1) = mRow ms la lb li i j ++ [((i : Int), (j : Int))] := by
  unfold mRow
  rw [rng_yes h, List.map_append]; rfl
theorem mRow_no {ms : List Int} {la lb li : Int} {i j : Nat} (h : meetB ms la lb li i j = false) : mRow ms la lb li i (j + 1) = mRow ms la lb li i j := by
  unfold mRow
  rw [rng_no h]
theorem mPairs_mem {ms : List Int} {la lb li : Int} {q : Int × Int} : q ∈ mPairs ms la lb li ↔ ∃ i j : Nat, i < ms.length ∧ j < ms.length ∧ meetB ms la lb li i j = true ∧ q = ((i : Int), (j : Int)) := by
  unfold mPairs mUp mRow
  rw [List.mem_flatMap]
  constructor
  · rintro ⟨i, hi, h⟩
    obtain ⟨j, hj, rfl⟩ := List.mem_map.mp h
    rw [List.mem_filter] at hj
    exact ⟨i, j, List.mem_range.mp hi, List.mem_range.mp hj.1, hj.2, rfl⟩
  · rintro ⟨i, j, hi, hj, h, rfl⟩
    exact ⟨i, List.mem_range.mpr hi, List.mem_map.mpr ⟨j, List.mem_filter.mpr ⟨List.mem_range.mpr hj, h⟩, rfl⟩⟩
@[irreducible] def spMeetP (FC KC : Addr) : Sp := fun vs H Q _ => ∃ f ks cl q l ms, vs = [.ref f, .ref q.t, .ref l] ∧ FlAt FC KC H f ks cl ∧ q ∈ cl ∧ q.a ∈ ks.map (·.1) ∧ q.b ∈ ks.map (·.1) ∧ H l = some (.lst (ms.map V.int)) ∧ ms.length ≤ 8 ∧ BdOk ms (lateK ks q.a) (lateK ks q.b) q.i ∧
  ∀ D H', H D = none → Same H H' → PrsAt H' D (mPairs ms (lateK ks q.a) (lateK ks q.b) q.i) → Q (.ref D) H'
theorem use_com {FC KC RC f l : Addr} {ks : K54F.Ks} {cl : List Cl} {q : Cl} {ms : List Int} {i j : Nat} {H : Hp} {Q : VK} {E : XK} (fl : FlAt FC KC H f ks cl) (hq : q ∈ cl) (ma : q.a ∈ ks.map (·.1)) (mb : q.b ∈ ks.map (·.1)) (el : H l = some (.lst (ms.map V.int))) (li : i < ms.length) (lj : j < ms.length) (bd : BdOk ms (lateK ks q.a) (lateK ks q.b) q.i)
    (k : ∀ x H', H x = none → Same H H' → K54R.RAt RC H' x (comR ms (lateK ks q.a) (lateK ks q.b) q.i i j) → Q (.ref x) H') : spCom FC KC RC [.ref f, .ref q.t, .ref l, .int (i : Nat), .int (j : Nat)] H Q E := by
  unfold spCom
  exact ⟨f, ks, cl, q, l, ms, i, j, rfl, fl, hq, ma, mb, el, li, lj, bd, k⟩
section
variable {P : Program} {w : World} {K : PySem.W.Frag} {mg : Str → Option Value} {base : Heap} {C PC CU CE RC FC KC : Addr}
abbrev s_meeting_pairs : Stmt := top 57
theorem sc_meeting_pairs : FnScope ["fleet", "call", "moments", "numbers", "one", "two"] ["fleet", "call", "moments"] (defScope s_meeting_pairs) := ⟨rfl, rfl, rfl, by decide +kernel, rfl, by decide +kernel, by decide +kernel⟩
theorem ok_meetp (D : DefK K mg "meeting_pairs" s_meeting_pairs) (T : TxP K mg) (G_common_span : Cal P w K mg base CX0 8 "common_span" (spCom FC KC RC)) (M_bool : Met P w K mg base CX0 1 RC "__bool__" (K54R.spBoo RC)) : Cal P w K mg base CX0 9 "meeting_pairs" (spMeetP FC KC) := by
  refine D.cal sc_meeting_pairs (fun _ _ _ _ _ _ us hl => match us, hl with | [_, _, _], _ => rfl) (fun vs H Q E h => ?_) fun f0 cdv A outer s H vs Q E hr h => ?_
  · unfold spMeetP at h; obtain ⟨f, ks, cl, q, l, ms, rfl, _⟩ := h; rfl
  · unfold spMeetP at h; obtain ⟨f, ks, cl, q, l, ms, rfl, fl, hq, ma, mb, el, m7, bd, k⟩ := h
    refine ⟨_, (pss_cons (ps_set (i := 3) sc_meeting_pairs.nd rfl (Or.inr rfl) (pe_callTy (cr_range1) (by rfl) T.b_range (by decide +kernel) (pa_cons (pe_callB call_len_seq (by rfl) T.b_len (by decide +kernel) (pa_cons (pv 2) pa_nil)) pa_nil)))
      (pss_one (ps_ret (pe_lc2 (own := [("one", 4), ("two", 5)]) (vs1 := [5]) (g := gName 4) (g1 := gName 5) (by rfl) sc_meeting_pairs.nd (pi_rngV (pv 3)) (blkOk_by (own := [("one", 4), ("two", 5)]) (N := ["fleet", "call", "moments", "numbers", "one", "two"]) (sc := defScope s_meeting_pairs) (by decide +kernel)) (by decide) (fun _ _ _ _ _ => pg_name (i := 4) sc_meeting_pairs.nd rfl (Or.inl rfl)) (fun _ _ _ _ _ => pts_nil) (fun _ _ _ _ _ => pi_rngV (pv 3)) (fun _ _ _ _ _ => pg_name (i := 5) sc_meeting_pairs.nd rfl (Or.inl rfl)) (fun _ _ _ _ _ => pts_one (pt_own M_bool hr (by decide) (pe_c G_common_span hr (by decide) rfl (pa_cons (pv 0) (pa_cons (pv 1) (pa_cons (pv 2) (pa_cons (pv 4) (pa_cons (pv 5) pa_nil)))))))) (fun _ _ _ _ _ => pe_tup (pa_cons (pv 4) (pa_cons (pv 5) pa_nil))))))), ?_⟩
    have lm : ((ms.map V.int).length : Int) = (ms.length : Int) := by rw [List.length_map]
    have b7 : (7 : Int) < 2 ^ 62 := by decide
    refine ⟨_, rfl, l, _, rfl, .inl (SqL.of el), _, rfl, fun pr npr => ?_⟩
    have s1 := same_new (o := .rng 0 ((ms.map V.int).length : Int)) npr
    have er : upd H pr (.rng 0 ((ms.map V.int).length : Int)) pr = some (.rng 0 (ms.length : Int)) := by rw [upd_same, lm]
    generalize upd H pr (.rng 0 ((ms.map V.int).length : Int)) = H1 at *
    refine ⟨_, rfl, pr, 0, ms.length, rfl, er, by omega, by omega, by omega, by omega, fun D nD => ?_⟩
    rw [show ((ms.length : Int) - 0).toNat = ms.length by omega]
    refine rng_walk (fun i H' => PrsAt H' D (mUp ms (lateK ks q.a) (lateK ks q.b) q.i i) ∧ Same H1 H') ⟨⟨[], upd_same, .nil⟩, same_new nD⟩ ?_ ?_
    · rintro i H2 hi ⟨p2, s2⟩
      have ei : (0 : Int) + (i : Nat) = ((i : Nat) : Int) := by omega
      rw [ei]
      refine ⟨rfl, ?_⟩
      refine K54C.yes_if ?_
      have er2 := s2 _ _ er
      refine ⟨_, rfl, pr, 0, ms.length, rfl, er2, by omega, by omega, by omega, by omega, ?_⟩
      rw [show ((ms.length : Int) - 0).toNat = ms.length by omega]
      refine rng_walk (fun j H' => PrsAt H' D (mUp ms (lateK ks q.a) (lateK ks q.b) q.i i ++ mRow ms (lateK ks q.a) (lateK ks q.b) q.i i j) ∧ Same H1 H') ⟨by rw [show mRow ms (lateK ks q.a) (lateK ks q.b) q.i i 0 = [] from rfl, List.append_nil]; exact p2, s2⟩ ?_ ?_
      · rintro j H3 hj ⟨p3, s3⟩
        have ej : (0 : Int) + (j : Nat) = ((j : Nat) : Int) := by omega
        rw [ej]
        refine ⟨rfl, ?_⟩
        have s03 := s1.trans s3
        refine ⟨_, rfl, _, rfl, _, rfl, _, rfl, _, rfl, use_com (fl.same s03) hq ma mb (s03 _ _ el) hi hj bd fun x H4 nx s4 rx => ?_⟩
        obtain ⟨dxx, ex⟩ := id rx
        refine ⟨x, dxx, _, rfl, ex, x, _, rfl, rx, _, rfl, ?_⟩
        have p4 := p3.same s4
        obtain ⟨ts, eD, tt⟩ := p4
        have tl := tt.len
        have z1 := mUp_len (ms := ms) (la := lateK ks q.a) (lb := lateK ks q.b) (li := q.i) i
        have z2 := mRow_len (ms := ms) (la := lateK ks q.a) (lb := lateK ks q.b) (li := q.i) (i := i) (n := j)
        have z3 : i * ms.length ≤ 8 * 8 := Nat.mul_le_mul (by omega) m7
        rw [List.length_append] at tl
        cases c : meetB ms (lateK ks q.a) (lateK ks q.b) q.i i j with
        | false => exact iteFe c ⟨by rw [mRow_no c]; exact ⟨ts, eD, tt⟩, s3.trans s4⟩
        | true =>
          refine iteTe c ⟨_, rfl, _, rfl, by show 2 ≤ sizeLine; decide, fun t nt => ?_⟩
          have g := same_new (o := .tup [.int (i : Int), .int (j : Int)]) nt
          refine ⟨_, g _ _ eD, by rw [List.length_map, sizeLine_eq]; omega, ?_, same_mut ((s3.trans s4).trans g) nD⟩
          rw [mRow_yes c, ← List.append_assoc]
          exact PrsAt.push (g _ _ eD) (tt.same g) upd_same
      · rintro H3 ⟨p3, s3⟩
        exact ⟨by rw [mUp_more]; exact p3, s3⟩
    · rintro H2 ⟨p2, s2⟩
      exact k D H2 (s1.free nD) (s1.trans s2) p2
end
end K54
namespace K54
open PySem PySem.Spec PyProof.Rows L2 Jg
local macro_rules | `(tactic| walk_at "rd1") => `(tactic| (first
  | refine ⟨_, rfl, ?_⟩
  | refine ⟨_, _, rfl, rfl, ?_⟩
  | refine ⟨_, _, rfl, ?_⟩
  | refine ⟨rfl, ?_⟩
  | (refine ⟨show (0 : Int) < _ by omega, ?_⟩)
  | (refine ⟨Or.inl ⟨by omega, by omega⟩, ?_⟩)
  | (refine ⟨Or.inr ⟨by omega, by omega⟩, ?_⟩)
  | (refine ⟨(⟨by decide, by decide, by decide⟩ : CPow _ _), ?_⟩)
  | refine Or.inl ⟨_, rfl, ?_⟩
  | refine Or.inr ⟨_, rfl, ?_⟩
  | fail "rd"))
local macro_rules | `(tactic| walk_at "rd") => `(tactic| repeat' walk_at "rd1")
/-! ### all meetings, what is refused -/
open K54C (Ct CAt Use)
def mtRow (ks : K54F.Ks) (ms : List Int) (c : Nat) (q : Cl) : List I3 := (mPairs ms (lateK ks q.a) (lateK ks q.b) q.i).map fun p => ((c : Int), p.1, p.2)
def mtUp (ks : K54F.Ks) (ms : List Int) (cl : List Cl) (n : Nat) : List I3 := (List.range n).flatMap fun c => match cl[c]? with | some q => mtRow ks ms c q | none => []
def mtAll (ks : K54F.Ks) (ms : List Int) (cl : List Cl) : List I3 := mtUp ks ms cl cl.length
theorem mtUp_more {ks : K54F.Ks} {ms : List Int} {cl : List Cl} {n : Nat} {q : Cl} (h : cl[n]? = some q) : mtUp ks ms cl (n + 1) = mtUp ks ms cl n ++ mtRow ks ms n q := by
  unfold mtUp
  rw [List.range_succ, List.flatMap_append, List.flatMap_cons, List.flatMap_nil, List.append_nil, h]
theorem mPairs_len {ms : List Int} {la lb li : Int} (m7 : ms.length ≤ 8) : (mPairs ms la lb li).length ≤ 64 := by
  have h := mUp_len (ms := ms) (la := la) (lb := lb) (li := li) ms.length
  have h2 : ms.length * ms.length ≤ 8 * 8 := Nat.mul_le_mul m7 m7
  unfold mPairs; omega
theorem mtUp_len {ks : K54F.Ks} {ms : List Int} {cl : List Cl} (m7 : ms.length ≤ 8) : ∀ n, (mtUp ks ms cl n).length ≤ 64 * n
  | 0 => Nat.zero_le _
  | n + 1 => by
    have ih := mtUp_len (ks := ks) (cl := cl) m7 n
    cases c : cl[n]? with
    | none =>
      unfold mtUp at ih ⊢
      rw [List.range_succ, List.flatMap_append, List.flatMap_cons, List.flatMap_nil, List.append_nil, c, List.append_nil]
      omega
    | some q =>
      rw [mtUp_more c, List.length_append]
      unfold mtRow
      rw [List.length_map]
      have := mPairs_len (la := lateK ks q.a) (lb := lateK ks q.b) (li := q.i) m7
      omega
theorem en_it {K : PySem.W.Frag} {a : Addr} {xs : List V} {g : TG} {tb : TS} {D : Ends} {σ : L2.St} {H : Hp} (ea : H a = some (.lst xs)) (Pv : Nat → L2.St → Hp → Prop) (h0 : Pv 0 σ H) (hq : ∀ i σ H', Pv i σ H' → H' a = some (.lst xs))
    (hs : ∀ (j : Nat) (x : V) (T : Addr) (σ : L2.St) (H : Hp), xs[j]? = some x → Pv j σ H → H T = none → g (.ref T) σ (upd H T (.tup [.int (j : Nat), x])) fun σ2 H2 => tb { D with nx := Pv (j + 1), ct := Pv (j + 1), bk := D.nx } σ2 H2) (hd : ∀ σ H, Pv xs.length σ H → D.nx σ H) :
    ∃ W : Nat → Nat → L2.St → Hp → Prop, (∃ m, W 0 m σ H) ∧ ∀ i m σ H, W i m σ H → ((Ite K a).stop i H ∧ D.nx σ H) ∨ ((Ite K a).go i H ∧ ∃ N : L2.St → Hp → Prop, (∀ σ' H', N σ' H' → ∃ m', m' < m ∧ W (i + 1) m' σ' H') ∧ ∀ x H', (Ite K a).yld i H x H' → g x σ H' fun σ2 H2 => tb { D with nx := N, ct := N, bk := D.nx } σ2 H2) :=
  for_it walk_enum Pv h0 (fun i σ H' _ p => SqL.of (hq _ _ _ p)) (fun j x σ H' H2 lt p y => by
    obtain ⟨T, kk, vv, rfl, nT, rfl, ek, ev⟩ := y
    cases Option.some.inj ek
    exact hs j vv T σ H' ev p nT) hd
/-- what every call of a fleet keeps to -/
structure ClB (ks : K54F.Ks) (ms : List Int) (q : Cl) : Prop where
  a : q.a ∈ ks.map (·.1)
  b : q.b ∈ ks.map (·.1)
  bd : BdOk ms (lateK ks q.a) (lateK ks q.b) q.i
@[irreducible] def spAllM (FC KC : Addr) : Sp := fun vs H Q _ => ∃ f ks cl l ms, vs = [.ref f, .ref l] ∧ FlAt FC KC H f ks cl ∧ (∀ q ∈ cl, ClB ks ms q) ∧ H l = some (.lst (ms.map V.int)) ∧ ms.length ≤ 8 ∧ cl.length ≤ 6 ∧
  ∀ D H', H D = none → Same H H' → GsAt v3 H' D (mtAll ks ms cl) → Q (.ref D) H'
theorem use_meetp {FC KC f l : Addr} {ks : K54F.Ks} {cl : List Cl} {q : Cl} {ms : List Int} {H : Hp} {Q : VK} {E : XK} (fl : FlAt FC KC H f ks cl) (hq : q ∈ cl) (cb : ClB ks ms q) (el : H l = some (.lst (ms.map V.int))) (m7 : ms.length ≤ 8)
    (k : ∀ D H', H D = none → Same H H' → PrsAt H' D (mPairs ms (lateK ks q.a) (lateK ks q.b) q.i) → Q (.ref D) H') : spMeetP FC KC [.ref f, .ref q.t, .ref l] H Q E := by
  unfold spMeetP
  exact ⟨f, ks, cl, q, l, ms, rfl, fl, hq, cb.a, cb.b, el, m7, cb.bd, k⟩
section
variable {P : Program} {w : World} {K : PySem.W.Frag} {mg : Str → Option Value} {base : Heap} {C PC CU CE RC FC KC : Addr}
abbrev s_all_meetings : Stmt := top 58
theorem sc_all_meetings : FnScope ["fleet", "moments", "found", "number", "call", "pair"] ["fleet", "moments"] (defScope s_all_meetings) := ⟨rfl, rfl, rfl, by decide +kernel, rfl, by decide +kernel, by decide +kernel⟩
theorem ok_allm (D : DefK K mg "all_meetings" s_all_meetings) (T : TxP K mg) (TF : K54F.FTx K mg FC) (M_calls : Met P w K mg base CX0 1 FC "calls" (K54F.spCalls FC KC)) (G_meeting_pairs : Cal P w K mg base CX0 9 "meeting_pairs" (spMeetP FC KC)) : Cal P w K mg base CX0 10 "all_meetings" (spAllM FC KC) := by
  refine D.cal sc_all_meetings (fun _ _ _ _ _ _ us hl => match us, hl with | [_, _], _ => rfl) (fun vs H Q E h => ?_) fun f0 cdv A outer s H vs Q E hr h => ?_
  · unfold spAllM at h; obtain ⟨f, ks, cl, l, ms, rfl, _⟩ := h; rfl
  · unfold spAllM at h; obtain ⟨f, ks, cl, l, ms, rfl, fl, cb, el, m7, c6, k⟩ := h
    refine ⟨_, (pss_cons (ps_set (i := 2) sc_all_meetings.nd rfl (Or.inl rfl) (pe_lst pa_nil))
      (pss_cons (ps_for PassesOwn.never rfl (pi_enum (by rfl) T.b_enumerate (pa_cons (pe_mz M_calls TF.cl hr (by decide) (pv 0)) pa_nil)) (pg_tup rfl (pgs_cons (pg_name (i := 3) sc_all_meetings.nd rfl (Or.inr rfl)) (pgs_cons (pg_name (i := 4) sc_all_meetings.nd rfl (Or.inl rfl)) pgs_nil))) (pss_one (ps_set (i := 2) sc_all_meetings.nd rfl (Or.inl rfl) (pe_op op_cat (pv 2) (pe_lc (own := [("pair", 5)]) (g := gName 5) (by rfl) sc_all_meetings.nd (pi_list (pe_c G_meeting_pairs hr (by decide) rfl (pa_cons (pv 0) (pa_cons (pv 4) (pa_cons (pv 1) pa_nil))))) (blkOk_by (own := [("pair", 5)]) (N := ["fleet", "moments", "found", "number", "call", "pair"]) (sc := defScope s_all_meetings) (by decide +kernel)) (fun _ _ _ _ _ => pg_name (i := 5) sc_all_meetings.nd rfl (Or.inl rfl)) (fun _ _ _ _ _ => pts_nil) (fun _ _ _ _ _ => (pe_tup (pa_cons (pv 3) (show PA _ _ (StX.tStar K (tVar 5) tNil) from StX.pa_star (pv 5) pa_nil)))))))))
      (pss_one (ps_ret (pv 2))))), ?_⟩
    obtain ⟨d, cc, fa⟩ := id fl.ex
    obtain ⟨dxf, ef⟩ := id fa.at_
    refine ⟨by show 0 ≤ sizeLine; decide, fun f1 n1 => ?_⟩
    have g1 := same_new (o := .lst []) n1
    have e1 : upd H f1 (.lst []) f1 = some (.lst []) := upd_same
    generalize upd H f1 (.lst []) = H1 at *
    refine ⟨_, rfl, f, dxf, _, rfl, g1 _ _ ef, K54F.get_fno _ _ (by decide +kernel) (by decide +kernel), f, d, cc, ks, _, rfl, fa.keep g1, fun lc nlc => ?_⟩
    have g2 := same_new (o := .lst (cl.map fun q => V.ref q.t)) nlc
    have elc : upd H1 lc (.lst (cl.map fun q => V.ref q.t)) lc = some (.lst (cl.map fun q => V.ref q.t)) := upd_same
    generalize upd H1 lc (.lst (cl.map fun q => V.ref q.t)) = H2 at *
    have s02 := g1.trans g2
    refine ⟨lc, _, rfl, SqL.of elc, ?_⟩
    show Exists _
    refine en_it elc (fun i sg H' => (∃ (r : Addr) (w3 w4 w5 : Option V), sg = [some (.ref f), some (.ref l), some (.ref r), w3, w4, w5] ∧ H r = none ∧ GsAt v3 H' r (mtUp ks ms cl i)) ∧ Same H2 H') ⟨⟨f1, _, _, _, rfl, n1, .nil (g2 _ _ e1)⟩, .refl _⟩ (fun i σ H' ⟨_, s'⟩ => s' _ _ elc) ?_ ?_
    · rintro i x T sg H3 hx ⟨⟨r, v3', v4', v5', rfl, nr, gr⟩, s3⟩ nT
      obtain ⟨q, hq, rfl⟩ : ∃ q, cl[i]? = some q ∧ x = .ref q.t := by
        rw [List.getElem?_map] at hx
        cases c9 : cl[i]? with
        | none => rw [c9] at hx; cases hx
        | some q => rw [c9] at hx; exact ⟨q, rfl, (Option.some.inj hx).symm⟩
      have il := (List.getElem?_eq_some_iff.mp hq).1
      have mq := List.mem_of_getElem? hq
      have gT := same_new (o := .tup [.int (i : Nat), .ref q.t]) nT
      have eT : upd H3 T (.tup [.int (i : Nat), .ref q.t]) T = some (.tup [.int (i : Nat), .ref q.t]) := upd_same
      generalize upd H3 T (.tup [.int (i : Nat), .ref q.t]) = H4 at *
      have s04 := s02.trans (s3.trans gT)
      have gr4 := gr.same gT
      refine ⟨T, _, rfl, SqT.of eT, rfl, _, _, rfl, _, _, rfl, rfl, ?_⟩
      refine ⟨_, rfl, _, rfl, _, rfl, _, rfl, use_meetp (fl.same s04) mq (cb q mq) (s04 _ _ el) m7 fun lp H5 np s5 tp => ?_⟩
      obtain ⟨up, ep, tp⟩ := tp
      have tp : TsAt H5 up (mPairs ms (lateK ks q.a) (lateK ks q.b) q.i) := tp
      have p49 := mPairs_len (la := lateK ks q.a) (lb := lateK ks q.b) (li := q.i) m7
      refine ⟨lp, rfl, ⟨_, SqL.of ep⟩, fun D nD => ?_⟩
      refine lc_list (K := K) (a := lp) (xs := up.map V.ref) (fun j H' => GsAt v3 H' D (((mPairs ms (lateK ks q.a) (lateK ks q.b) q.i).take j).map fun p => ((i : Int), p.1, p.2)) ∧ Same H5 H') ⟨.nil upd_same, same_new nD⟩ (fun j H' _ ⟨_, s'⟩ => SqL.of (s' _ _ ep)) ?_ ?_
      · rintro j y H' hj ⟨tD, s'⟩
        obtain ⟨t, ht, rfl⟩ : ∃ t, up[j]? = some t ∧ y = .ref t := by
          rw [List.getElem?_map] at hj
          cases c : up[j]? with
          | none => rw [c] at hj; cases hj
          | some t => rw [c] at hj; exact ⟨t, rfl, (Option.some.inj hj).symm⟩
        obtain ⟨pq, hpq, et⟩ := tp.at_ ht
        have tk : (mPairs ms (lateK ks q.a) (lateK ks q.b) q.i).take (j + 1) = (mPairs ms (lateK ks q.a) (lateK ks q.b) q.i).take j ++ [pq] := by rw [List.take_succ, hpq]; rfl
        obtain ⟨uD, eD, tt⟩ := tD
        have ul := tt.len
        rw [List.length_map, List.length_take] at ul
        refine ⟨rfl, K54C.yes_if ?_⟩
        refine ⟨_, rfl, _, rfl, t, _, rfl, .inl (SqT.of (s' _ _ et)), by show 3 ≤ sizeLine; decide, fun t2 n2 => ?_⟩
        have g2 := same_new (o := .tup [.int (i : Nat), .int pq.1, .int pq.2]) n2
        refine ⟨_, g2 _ _ eD, by rw [List.length_map, sizeLine_eq]; omega, ?_, same_mut (s'.trans g2) nD⟩
        rw [tk, List.map_append]
        exact GsAt.push (v := v3) (q := ((i : Int), pq.1, pq.2)) (g2 _ _ eD) (tt.same g2) upd_same
      · rintro H6 ⟨tD, s6⟩
        rw [List.length_map, tp.len, List.take_length] at tD
        obtain ⟨uD, eD, tt⟩ := tD
        have s46 := s5.trans s6
        have gr6 := (gr4.same s5).same s6
        obtain ⟨ur, er, tr⟩ := gr6
        have l1 := tr.len
        have l2 := tt.len
        have a5 := mtUp_len (ks := ks) (cl := cl) m7 i
        rw [List.length_map] at l2
        refine ⟨r, D, _, _, rfl, rfl, er, eD, by rw [List.length_map, List.length_map, sizeLine_eq]; omega, fun r2 nr2 => ?_⟩
        have g := same_new (o := .lst (ur.map V.ref ++ uD.map V.ref)) nr2
        refine ⟨⟨r2, _, _, _, rfl, (s04.trans s46).free nr2, ur ++ uD, by rw [upd_same, List.map_append], ?_⟩, ((s3.trans gT).trans s46).trans g⟩
        rw [mtUp_more hq]
        exact (tr.app tt).same g
    · rintro sg H3 ⟨⟨r, v3', v4', v5', rfl, nr, gr⟩, s3⟩
      rw [List.length_map] at gr
      exact ⟨_, rfl, k r H3 nr (s02.trans s3) gr⟩
end
end K54
namespace K54
open PySem PySem.Spec PyProof.Rows L2 Jg
local macro_rules | `(tactic| walk_at "rd1") => `(tactic| (first
  | refine ⟨_, rfl, ?_⟩
  | refine ⟨_, _, rfl, rfl, ?_⟩
  | refine ⟨_, _, rfl, ?_⟩
  | refine ⟨rfl, ?_⟩
  | (refine ⟨show (0 : Int) < _ by omega, ?_⟩)
  | (refine ⟨Or.inl ⟨by omega, by omega⟩, ?_⟩)
  | (refine ⟨Or.inr ⟨by omega, by omega⟩, ?_⟩)
  | (refine ⟨(⟨by decide, by decide, by decide⟩ : CPow _ _), ?_⟩)
  | refine Or.inl ⟨_, rfl, ?_⟩
  | refine Or.inr ⟨_, rfl, ?_⟩
  | fail "rd"))
local macro_rules | `(tactic| walk_at "rd") => `(tactic| repeat' walk_at "rd1")
open K54C (Ct CAt Use)
/-! ### what an edition accepts, what it uses -/
def accW (c : Ct) (z : Str) : List Str := match c.us.find? fun r => decide (r.z = z) with
  | some r => r.ks
  | none => []
theorem find_use {c : Ct} {z : Str} (h : z ∈ c.us.map (·.z)) : ∃ r, c.us.find? (fun r => decide (r.z = z)) = some r ∧ r.z = z ∧ r ∈ c.us := by
  obtain ⟨q, hq, e⟩ := List.mem_map.mp h
  cases c9 : c.us.find? fun r => decide (r.z = z) with
  | none => exact absurd (List.find?_eq_none.mp c9 q hq) (by rw [decide_eq_true e]; decide)
  | some r => exact ⟨r, rfl, of_decide_eq_true (List.find?_some (p := fun r : Use => decide (r.z = z)) c9), List.mem_of_find?_eq_some c9⟩
def usW (c : Ct) (z : Str) : Str := match c.us.find? fun r => decide (r.z = z) with
  | some r => r.u
  | none => ""
def refB (es : List Ed) (cl : List Cl) (q : I3) : Bool := match cl[q.1.toNat]? with
  | some c => !decide (usW (cAt es q.2.1) c.z ∈ accW (cAt es q.2.2) c.z)
  | none => false
@[irreducible] def spIsRef (C : Addr) : Sp := fun vs H Q _ => ∃ lc es z i j, vs = [.ref lc, .str z, .int (i : Nat), .int (j : Nat)] ∧ H lc = some (.lst (es.map fun (e : Ed) => V.ref e.x)) ∧ (∀ e ∈ es, EdC C H e) ∧ i < es.length ∧ j < es.length ∧ (∀ e ∈ es, z ∈ e.c.us.map (·.z)) ∧
  ∀ H', Same H H' → Q (.bl (!decide (usW (cAt es (i : Nat)) z ∈ accW (cAt es (j : Nat)) z))) H'
@[irreducible] def spRefd (C FC KC : Addr) : Sp := fun vs H Q _ => ∃ f lc lm es ks cl ps, vs = [.ref f, .ref lc, .ref lm] ∧ FlAt FC KC H f ks cl ∧ cl.length ≤ 6 ∧ H lc = some (.lst (es.map fun (e : Ed) => V.ref e.x)) ∧ (∀ e ∈ es, EdC C H e) ∧ GsAt v3 H lm ps ∧ ps.length ≤ 400 ∧ (∀ q ∈ ps, ∃ c i j : Nat, q = ((c : Int), (i : Int), (j : Int)) ∧ c < cl.length ∧ i < es.length ∧ j < es.length) ∧
  (∀ q ∈ cl, ∀ e ∈ es, q.z ∈ e.c.us.map (·.z)) ∧ ∀ D H', H D = none → Same H H' → GsAt v3 H' D (ps.filter (refB es cl)) → Q (.ref D) H'
theorem use_isref {C lc : Addr} {es : List Ed} {z : Str} {i j : Nat} {H : Hp} {Q : VK} {E : XK} (el : H lc = some (.lst (es.map fun (e : Ed) => V.ref e.x))) (at_ : ∀ e ∈ es, EdC C H e) (li : i < es.length) (lj : j < es.length) (ok : ∀ e ∈ es, z ∈ e.c.us.map (·.z))
    (k : ∀ H', Same H H' → Q (.bl (!decide (usW (cAt es (i : Nat)) z ∈ accW (cAt es (j : Nat)) z))) H') : spIsRef C [.ref lc, .str z, .int (i : Nat), .int (j : Nat)] H Q E := by
  unfold spIsRef
  exact ⟨lc, es, z, i, j, rfl, el, at_, li, lj, ok, k⟩
theorem mtAll_mem {ks : K54F.Ks} {ms : List Int} {cl : List Cl} {x : I3} : x ∈ mtAll ks ms cl ↔ ∃ (c : Nat) (q : Cl) (i j : Nat), cl[c]? = some q ∧ i < ms.length ∧ j < ms.length ∧ meetB ms (lateK ks q.a) (lateK ks q.b) q.i i j = true ∧ x = ((c : Int), (i : Int), (j : Int)) := by
  unfold mtAll mtUp
  rw [List.mem_flatMap]
  constructor
  · rintro ⟨c, hc, h⟩
    cases e : cl[c]? with
    | none => rw [e] at h; cases h
    | some q =>
      rw [e] at h
      obtain ⟨p, hp, rfl⟩ := List.mem_map.mp h
      obtain ⟨i, j, li, lj, m, rfl⟩ := mPairs_mem.mp hp
      exact ⟨c, q, i, j, e, li, lj, m, rfl⟩
  · rintro ⟨c, q, i, j, e, li, lj, m, rfl⟩
    refine ⟨c, List.mem_range.mpr (List.getElem?_eq_some_iff.mp e).1, ?_⟩
    rw [e]
    exact List.mem_map.mpr ⟨((i : Int), (j : Int)), mPairs_mem.mpr ⟨i, j, li, lj, m, rfl⟩, rfl⟩
theorem fil_snoc {α : Type} {p : α → Bool} {xs : List α} {i : Nat} {x : α} (h : xs[i]? = some x) : (xs.take (i + 1)).filter p = (xs.take i).filter p ++ (if p x = true then [x] else []) := by
  rw [List.take_succ, h, List.filter_append]
  congr 1
  show [x].filter p = _
  rw [List.filter_cons, List.filter_nil]
section
variable {P : Program} {w : World} {K : PySem.W.Frag} {mg : Str → Option Value} {base : Heap} {C PC CU CE RC FC KC : Addr}
abbrev s_is_refused : Stmt := top 60
theorem sc_is_refused : FnScope ["contents", "role", "made_in", "shown_to"] ["contents", "role", "made_in", "shown_to"] (defScope s_is_refused) := ⟨rfl, rfl, rfl, by decide +kernel, rfl, by decide +kernel, by decide +kernel⟩
theorem ok_isref (D : DefK K mg "is_refused" s_is_refused) (J : K54C.CTx K mg C) (M_used : Met P w K mg base (L2.CX P w) 4 C "used" (K54C.spRole K C CU K54C.outU)) (M_acc : Met P w K mg base (L2.CX P w) 4 C "accepted" (K54C.spRole K C CU K54C.outA)) : Cal P w K mg base CX0 5 "is_refused" (spIsRef C) := by
  refine D.cal sc_is_refused (fun _ _ _ _ _ _ us hl => match us, hl with | [_, _, _, _], _ => rfl) (fun vs H Q E h => ?_) fun f0 cdv A outer s H vs Q E hr h => ?_
  · unfold spIsRef at h; obtain ⟨lc, es, z, i, j, rfl, _⟩ := h; rfl
  · unfold spIsRef at h; obtain ⟨lc, es, z, i, j, rfl, el, at_, li, lj, ok, k⟩ := h
    refine ⟨_, (pss_one (ps_ret (pe_cmpR (r := rIn K true) op_notIn_seq (pe_mS M_used J.cl takes0 hr (by decide) (pe_ix (r := rIxL K) ix_list (pv 0) (pv 2) (fun _ _ => rfl)) (pa_cons (pv 1) pa_nil)) (pe_mS M_acc J.cl takes0 hr (by decide) (pe_ix (r := rIxL K) ix_list (pv 0) (pv 3) (fun _ _ => rfl)) (pa_cons (pv 1) pa_nil)) rfl))), ?_⟩
    obtain ⟨e1, he1⟩ : ∃ e, es[i]? = some e := ⟨_, List.getElem?_eq_getElem li⟩
    obtain ⟨e2, he2⟩ : ∃ e, es[j]? = some e := ⟨_, List.getElem?_eq_getElem lj⟩
    have A1 := at_ e1 (List.mem_of_getElem? he1)
    have A2 := at_ e2 (List.mem_of_getElem? he2)
    obtain ⟨r1, f1, rz1, mr1⟩ := find_use (ok e1 (List.mem_of_getElem? he1))
    obtain ⟨r2, f2, rz2, mr2⟩ := find_use (ok e2 (List.mem_of_getElem? he2))
    have c1 : cAt es (i : Int) = e1.c := by unfold cAt; rw [Int.toNat_natCast, he1]
    have c2 : cAt es (j : Int) = e2.c := by unfold cAt; rw [Int.toNat_natCast, he2]
    have u1 : usW (cAt es (i : Int)) z = r1.u := by rw [c1]; unfold usW; rw [f1]
    have u2 : accW (cAt es (j : Int)) z = r2.ks := by rw [c2]; unfold accW; rw [f2]
    rw [u1, u2] at k
    obtain ⟨dx1, d1, v1, s1, x1, _⟩ := A1.ct.ex
    obtain ⟨dx2, d2, v2, s2, x2, _⟩ := A2.ct.ex
    refine ⟨_, rfl, _, rfl, lc, _, _, .ref e1.x, rfl, rfl, SqL.of el, atI_nat (j := i) (by rw [List.getElem?_map, he1]; rfl), e1.x, dx1, _, rfl, x1, K54C.get_no _ _ _ _ (by decide +kernel) (by decide +kernel) (by decide +kernel) (by decide +kernel), _, rfl, e1.x, _, e1.c, _, rfl, A1.ct, A1.ok, .inl ⟨r1, mr1, by rw [rz1], ?_⟩⟩
    refine ⟨_, rfl, _, rfl, lc, _, _, .ref e2.x, rfl, rfl, SqL.of el, atI_nat (j := j) (by rw [List.getElem?_map, he2]; rfl), e2.x, dx2, _, rfl, x2, K54C.get_no _ _ _ _ (by decide +kernel) (by decide +kernel) (by decide +kernel) (by decide +kernel), _, rfl, e2.x, _, e2.c, _, rfl, A2.ct, A2.ok, .inl ⟨r2, mr2, by rw [rz2], fun p np => ?_⟩⟩
    exact ask_notInS (xs := r2.ks) (SqL.of upd_same) (k _ (same_new np))
abbrev s_refused : Stmt := top 61
theorem sc_refused : FnScope ["fleet", "contents", "met", "roles", "role", "_", "call", "one", "two"] ["fleet", "contents", "met"] (defScope s_refused) := ⟨rfl, rfl, rfl, by decide +kernel, rfl, by decide +kernel, by decide +kernel⟩
theorem ok_refd (D : DefK K mg "refused" s_refused) (TF : K54F.FTx K mg FC) (M_calls : Met P w K mg base CX0 1 FC "calls" (K54F.spCalls FC KC)) (G_is_refused : Cal P w K mg base CX0 5 "is_refused" (spIsRef C)) : Cal P w K mg base CX0 6 "refused" (spRefd C FC KC) := by
  refine D.cal sc_refused (fun _ _ _ _ _ _ us hl => match us, hl with | [_, _, _], _ => rfl) (fun vs H Q E h => ?_) fun f0 cdv A outer s H vs Q E hr h => ?_
  · unfold spRefd at h; obtain ⟨f, lc, lm, es, ks, cl, ps, rfl, _⟩ := h; rfl
  · unfold spRefd at h; obtain ⟨f, lc, lm, es, ks, cl, ps, rfl, fl, c6, ec, at_, gm, few, rg, ok, k⟩ := h
    refine ⟨_, (pss_cons (ps_set (i := 3) sc_refused.nd rfl (Or.inr rfl) (pe_lc (own := [("role", 4), ("_", 5), ("_", 5), ("_", 5)]) (g := gTup K 4 (gCons (gName 4) (gCons (gName 5) (gCons (gName 5) (gCons (gName 5) gNil))))) (by rfl) sc_refused.nd (pi_list (pe_mz M_calls TF.cl hr (by decide) (pv 0))) (blkOk_by (own := [("role", 4), ("_", 5), ("_", 5), ("_", 5)]) (N := ["fleet", "contents", "met", "roles", "role", "_", "call", "one", "two"]) (sc := defScope s_refused) (by decide +kernel)) (fun _ _ _ _ _ => pg_tup rfl (pgs_cons (pg_name (i := 4) sc_refused.nd rfl (Or.inl rfl)) (pgs_cons (pg_name (i := 5) sc_refused.nd rfl (Or.inl rfl)) (pgs_cons (pg_name (i := 5) sc_refused.nd rfl (Or.inl rfl)) (pgs_cons (pg_name (i := 5) sc_refused.nd rfl (Or.inl rfl)) pgs_nil))))) (fun _ _ _ _ _ => pts_nil) (fun _ _ _ _ _ => (pv 4))))
      (pss_one (ps_ret (pe_lc (own := [("call", 6), ("one", 7), ("two", 8)]) (g := gTup K 3 (gCons (gName 6) (gCons (gName 7) (gCons (gName 8) gNil)))) (by rfl) sc_refused.nd (pi_list (pv 2)) (blkOk_by (own := [("call", 6), ("one", 7), ("two", 8)]) (N := ["fleet", "contents", "met", "roles", "role", "_", "call", "one", "two"]) (sc := defScope s_refused) (by decide +kernel)) (fun _ _ _ _ _ => pg_tup rfl (pgs_cons (pg_name (i := 6) sc_refused.nd rfl (Or.inl rfl)) (pgs_cons (pg_name (i := 7) sc_refused.nd rfl (Or.inl rfl)) (pgs_cons (pg_name (i := 8) sc_refused.nd rfl (Or.inl rfl)) pgs_nil)))) (fun _ _ _ _ _ => (pts_one (pt_val (pe_c G_is_refused hr (by decide) rfl (pa_cons (pv 1) (pa_cons (pe_ix (r := rIxL K) ix_list (pv 3) (pv 6) (fun _ _ => rfl)) (pa_cons (pv 7) (pa_cons (pv 8) pa_nil)))))))) (fun _ _ _ _ _ => (pe_tup (pa_cons (pv 6) (pa_cons (pv 7) (pa_cons (pv 8) pa_nil))))))))), ?_⟩
    obtain ⟨d, cc, fa⟩ := id fl.ex
    obtain ⟨dxf, ef⟩ := id fa.at_
    refine ⟨_, rfl, f, dxf, _, rfl, ef, K54F.get_fno _ _ (by decide +kernel) (by decide +kernel), f, d, cc, ks, _, rfl, fa, fun l nl => ?_⟩
    have s1 := same_new (o := .lst (cl.map fun q => V.ref q.t)) nl
    have elc : upd H l (.lst (cl.map fun q => V.ref q.t)) l = some (.lst (cl.map fun q => V.ref q.t)) := upd_same
    generalize upd H l (.lst (cl.map fun q => V.ref q.t)) = H1 at *
    refine ⟨l, rfl, ⟨_, SqL.of elc⟩, fun D nD => ?_⟩
    refine lc_list (K := K) (a := l) (xs := cl.map fun q => V.ref q.t) (fun i H' => H' D = some (.lst (((cl.take i).map (·.z)).map V.str)) ∧ Same H1 H') ⟨upd_same, same_new nD⟩ (fun i H' _ ⟨_, s'⟩ => SqL.of (s' _ _ elc)) ?_ ?_
    · rintro i y H' hy ⟨eD, s'⟩
      obtain ⟨q, eq, rfl⟩ : ∃ q, cl[i]? = some q ∧ y = .ref q.t := by
        rw [List.getElem?_map] at hy
        cases c9 : cl[i]? with
        | none => rw [c9] at hy; cases hy
        | some q => rw [c9] at hy; exact ⟨q, rfl, (Option.some.inj hy).symm⟩
      have R := (s1.trans s') _ _ (fl.tp q (List.mem_of_getElem? eq))
      have tl := List.length_take_le' i cl
      refine ⟨q.t, _, rfl, SqT.of R, rfl, _, _, rfl, _, _, rfl, _, _, rfl, _, _, rfl, rfl, rfl, K54C.yes_if ?_⟩
      refine ⟨_, rfl, _, eD, by rw [List.length_map, List.length_map, sizeLine_eq]; omega, ?_, same_mut s' nD⟩
      rw [upd_same, List.take_succ, eq, List.map_append, List.map_append]; rfl
    rintro H2 ⟨eD, s2⟩
    rw [show (cl.map fun q => V.ref q.t).length = cl.length by rw [List.length_map], List.take_length] at eD
    have s12 := s1.trans s2
    obtain ⟨us, em, tt⟩ := gm.same s12
    refine ⟨_, rfl, lm, rfl, ⟨_, SqL.of em⟩, fun D2 nD2 => ?_⟩
    have pl := tt.len
    refine lc_list (K := K) (a := lm) (xs := us.map V.ref) (fun n H' => GsAt v3 H' D2 ((ps.take n).filter (refB es cl)) ∧ Same H2 H') ⟨.nil upd_same, same_new nD2⟩ (fun n H' _ ⟨_, s'⟩ => SqL.of (s' _ _ em)) ?_ ?_
    · rintro n y H' hy ⟨gD, s'⟩
      obtain ⟨t, ht, rfl⟩ : ∃ t, us[n]? = some t ∧ y = .ref t := by
        rw [List.getElem?_map] at hy
        cases c9 : us[n]? with
        | none => rw [c9] at hy; cases hy
        | some t => rw [c9] at hy; exact ⟨t, rfl, (Option.some.inj hy).symm⟩
      obtain ⟨x, hx, et⟩ := tt.at_ ht
      obtain ⟨c, i, j, rfl, lc9, li, lj⟩ := rg x (List.mem_of_getElem? hx)
      obtain ⟨q, hq⟩ : ∃ q, cl[c]? = some q := ⟨_, List.getElem?_eq_getElem lc9⟩
      have s2' := s12.trans s'
      have rb : refB es cl ((c : Int), (i : Int), (j : Int)) = !decide (usW (cAt es (i : Nat)) q.z ∈ accW (cAt es (j : Nat)) q.z) := by
        unfold refB
        rw [show (((c : Int), (i : Int), (j : Int)) : I3).1.toNat = c from Int.toNat_natCast c, hq]
      refine ⟨t, _, rfl, SqT.of (s' _ _ et), rfl, _, _, rfl, _, _, rfl, _, _, rfl, rfl, rfl, ?_⟩
      refine ⟨_, rfl, _, rfl, _, rfl, D, _, _, .str q.z, rfl, rfl, SqL.of (s' _ _ eD), atI_nat (j := c) (by rw [List.getElem?_map, List.getElem?_map, hq]; rfl), _, rfl, _, rfl, use_isref (s2' _ _ ec) (fun e he => (at_ e he).same s2') li lj (ok q (List.mem_of_getElem? hq)) fun H4 s4 => ⟨_, rfl, ?_⟩⟩
      rw [← rb]
      have gD4 := gD.same s4
      rw [fil_snoc hx]
      cases b : refB es cl ((c : Int), (i : Int), (j : Int)) with
      | false =>
        refine iteF ⟨?_, s'.trans s4⟩
        rw [if_neg (by decide), List.append_nil]; exact gD4
      | true =>
        obtain ⟨uD, e9, tD⟩ := gD4
        have ul := tD.len
        have f8 := List.length_filter_le (refB es cl) (ps.take n)
        have f9 := List.length_take_le' n ps
        refine iteT ⟨_, rfl, _, rfl, _, rfl, by show 3 ≤ sizeLine; decide, fun t2 n2 => ?_⟩
        have g2 := same_new (o := .tup [.int (c : Int), .int (i : Int), .int (j : Int)]) n2
        refine ⟨_, g2 _ _ e9, by rw [List.length_map, sizeLine_eq]; omega, ?_, same_mut ((s'.trans s4).trans g2) nD2⟩
        rw [if_pos rfl]
        exact GsAt.push (v := v3) (q := ((c : Int), (i : Int), (j : Int))) (g2 _ _ e9) (tD.same g2) upd_same
    · rintro H' ⟨gD, s'⟩
      rw [List.length_map, pl, List.take_length] at gD
      exact k D2 H' ((s12.free nD2)) (s12.trans s') gD
end
end K54
/-! == of lists of tuples of flat values and instances with an own __eq__, all alike (own) -/
namespace Jg
open PySem PySem.Spec PyProof.Rows L2
/-- flat and equal, or instances that R tells to be equal -/
def DFi (C : Addr) (R : Addr → Addr → Hp → Prop) : Eqv := fun x y H => DFlat x y H ∨ DIns C R x y H
theorem mon_fi {C : Addr} {R : Addr → Addr → Hp → Prop} (hR : ∀ a b H H', Ext H H' → R a b H → R a b H') : Mon (DFi C R) := mon_flat.or (mon_ins hR)
theorem op_eqLTI {X : Cx} {k j : Nat} {C : Addr} {sp : Sp} {R : Addr → Addr → Hp → Prop} (c : Met X.prog X.w X.K X.mg X.base CX0 k C "__eq__" sp) (hsp : ∀ vs H Q E, spEq R vs H Q E → sp vs H Q E) (hR : ∀ a b H H', Ext H H' → R a b H → R a b H') (hr : Room j X.A) (hk : k + 2 ≤ j) :
    OpR X (compareOp .Eq) (rEqG (DList (DTup X.K (DFi C R)))) := by
  obtain ⟨f, fd, ps, F, a, i, kp, b⟩ := c.ex
  have e1 : EqG X k (DIns C R) := eqG_ins (F.imp hsp) a i b pass0
  have e2 : EqG X k (DFi C R) := (eqG_flat.mono (Nat.zero_le k)).or e1
  exact op_eqG (rcG_list (mon_tup (mon_fi hR)) (eqG_tup (mon_fi hR) e2)) (hr.mono hk)
end Jg
namespace K54
open PySem PySem.Spec PyProof.Rows L2 Jg
local macro_rules | `(tactic| walk_at "rd1") => `(tactic| (first
  | refine ⟨_, rfl, ?_⟩
  | refine ⟨_, _, rfl, rfl, ?_⟩
  | refine ⟨_, _, rfl, ?_⟩
  | refine ⟨rfl, ?_⟩
  | (refine ⟨show (0 : Int) < _ by omega, ?_⟩)
  | (refine ⟨Or.inl ⟨by omega, by omega⟩, ?_⟩)
  | (refine ⟨Or.inr ⟨by omega, by omega⟩, ?_⟩)
  | (refine ⟨(⟨by decide, by decide, by decide⟩ : CPow _ _), ?_⟩)
  | refine Or.inl ⟨_, rfl, ?_⟩
  | refine Or.inr ⟨_, rfl, ?_⟩
  | fail "rd"))
local macro_rules | `(tactic| walk_at "rd") => `(tactic| repeat' walk_at "rd1")
/-! ### plans compared: the same editions -/
open K54C (Ct CAt CtOk ctB Use)
/-- the class of plans, compared -/
structure PEx (K : PySem.W.Frag) (PC : Addr) : Prop where
  cls_ : PySem.W.findIn K (.ref PC) "__class__" = some (some (.builtin "object.__class__"))
  cgt : PySem.W.specialIn K (.builtin "object.__class__") "__get__" = some (some (.builtin "getset_descriptor.__get__"))
  ctk : PySem.W.takesIn K (.builtin "object.__class__") = some true
  mro : PySem.W.mroIn K PC (.type "object") = some true
  ne : PySem.W.findIn K (.ref PC) "__ne__" = some (some (.builtin "object.__ne__"))
  kCC : PySem.W.kitOne K (.ref PC) (.ref PC) = some true
  oCC : PySem.W.notFirst K PC (.ref PC) = true
theorem PEx.ty {K : PySem.W.Frag} {mg : Str → Option Value} {PC : Addr} (J : PEx K PC) (PT : PTx K mg PC) {H : Hp} {x dx : Addr} {fs : List (Str × V)} (h : H x = some (.ins PC dx fs)) : TyX K H (.ref x) (.ref PC) := .base (.ins h PT.cl J.cls_ J.cgt J.ctk J.mro)
def ceR (C : Addr) (x y : Addr) (H : Hp) : Prop := ∃ c e S S', CAt S C H x c ∧ CtOk c ∧ CAt S' C H y e ∧ CtOk e ∧ ctB c e = true
theorem ceR_mono {C : Addr} : ∀ a b H H', Ext H H' → ceR C a b H → ceR C a b H' := fun a b H H' x ⟨c, e, S, S', h1, k1, h2, k2, q⟩ => ⟨c, e, S, S', h1.same x, k1, h2.same x, k2, q⟩
theorem ceR_sp {K : PySem.W.Frag} {C : Addr} : ∀ vs H Q E, spEq (ceR C) vs H Q E → K54C.spCEq K C vs H Q E := fun vs H Q E ⟨a, b, e, ⟨c, d, S, S', h1, k1, h2, k2, q⟩, k⟩ => ⟨a, .ref b, c, S, e, h1, k1, .inl ⟨b, d, S', rfl, h2, k2, by rw [q]; exact k H Ext.rfl'⟩⟩
def EqEd (es es2 : List Ed) : Prop := es.length = es2.length ∧ ∀ (i : Nat) (a b : Ed), es[i]? = some a → es2[i]? = some b → a.m = b.m ∧ ctB a.c b.c = true
@[irreducible] def spPEq (PC C : Addr) : Sp := fun vs H Q _ => ∃ p p2 es es2, vs = [.ref p, .ref p2] ∧ PlAt PC C H p es ∧ PlAt PC C H p2 es2 ∧ EqEd es es2 ∧ ∀ H', Same H H' → Q (.bl true) H'
section
variable {P : Program} {w : World} {K : PySem.W.Frag} {mg : Str → Option Value} {base : Heap} {C PC : Addr}
abbrev s_Plan_eq : Stmt := inClass (top 38) 5
theorem sc_Plan_eq : FnScope ["self", "other"] ["self", "other"] (defScope s_Plan_eq) := ⟨rfl, rfl, rfl, by decide +kernel, rfl, by decide +kernel, by decide +kernel⟩
theorem ok_peq (D : MetK K PC "__eq__" "Plan.__eq__" s_Plan_eq) (T : TxP K mg) (PT : PTx K mg PC) (PE2 : PEx K PC) (M_ceq : Met P w K mg base CX0 1 C "__eq__" (K54C.spCEq K C)) : Met P w K mg base CX0 4 PC "__eq__" (spPEq PC C) := by
  refine D.met sc_Plan_eq (fun _ _ _ _ _ _ us hl => match us, hl with | [_, _], _ => rfl) (fun vs H Q E h => ?_) fun f cdv A outer s H vs Q E hr h => ?_
  · unfold spPEq at h; obtain ⟨p, p2, es, es2, rfl, _⟩ := h; rfl
  · unfold spPEq at h; obtain ⟨p, p2, es, es2, rfl, pl, pl2, ⟨el, ee⟩, k⟩ := h
    obtain ⟨dx, l, e1, e2⟩ := id pl.ex
    obtain ⟨dx2, l2, f1, f2⟩ := id pl2.ex
    refine ⟨_, (pss_one (ps_ret (pe_and (pe_callB call_isi (by rfl) T.b_isinstance (by decide +kernel) (pa_cons (pv 1) (pa_cons (pe_glob (v := .ref PC) rfl PT.cPlan rfl) pa_nil))) (pe_one (pe_cmpR (op_eqLTI M_ceq ceR_sp ceR_mono hr (by decide)) (pe_fld (pv 0) rfl) (pe_fld (pv 1) rfl) (nomark _)))))), ?_⟩
    refine ⟨_, rfl, .ref p2, .ref PC, _, _, true, rfl, .own PC, PE2.ty PT f1, PE2.kCC, _, rfl, iteT ?_⟩
    refine ⟨_, rfl, p, PC, dx, _, _, rfl, e1, PT.cl, PT.ne, get_e _, _, rfl, p2, PC, dx2, _, _, rfl, f1, PT.cl, PT.ne, get_e _, ⟨l, l2, _, _, rfl, rfl, e2, f2, ?_⟩, fun H' x => k H' x⟩
    refine ⟨by rw [List.length_map, List.length_map, el], fun i x y hx hy => ?_⟩
    obtain ⟨a, ha, rfl⟩ := ed_at hx
    obtain ⟨b, hb, rfl⟩ := ed_at hy
    obtain ⟨em, ec⟩ := ee i a b ha hb
    have A1 := pl.eds a (List.mem_of_getElem? ha)
    have B1 := pl2.eds b (List.mem_of_getElem? hb)
    obtain ⟨dy, d, v, s, g1, _⟩ := A1.ct.ex
    obtain ⟨dy2, d2, v2, s2, g2, _⟩ := B1.ct.ex
    refine ⟨a.t, b.t, _, _, rfl, rfl, SqT.of A1.tp, SqT.of B1.tp, .cons (.inl ⟨rfl, rfl, ?_⟩) (.cons (.inr ⟨a.x, b.x, dy, dy2, _, _, rfl, rfl, g1, g2, a.c, b.c, _, _, A1.ct, A1.ok, B1.ct, B1.ok, ec⟩) .nil)⟩
    rw [em]
    simp [eqV]
end
end K54
namespace K54
open PySem PySem.Spec PyProof.Rows L2 Jg
local macro_rules | `(tactic| walk_at "rd1") => `(tactic| (first
  | refine ⟨_, rfl, ?_⟩
  | refine ⟨_, _, rfl, rfl, ?_⟩
  | refine ⟨_, _, rfl, ?_⟩
  | refine ⟨rfl, ?_⟩
  | (refine ⟨show (0 : Int) < _ by omega, ?_⟩)
  | (refine ⟨Or.inl ⟨by omega, by omega⟩, ?_⟩)
  | (refine ⟨Or.inr ⟨by omega, by omega⟩, ?_⟩)
  | (refine ⟨(⟨by decide, by decide, by decide⟩ : CPow _ _), ?_⟩)
  | refine Or.inl ⟨_, rfl, ?_⟩
  | refine Or.inr ⟨_, rfl, ?_⟩
  | fail "rd"))
local macro_rules | `(tactic| walk_at "rd") => `(tactic| repeat' walk_at "rd1")
/-! ### the newest meetings and jumps; faults told -/
def newM (n : Nat) (q : I3) : Bool := decide (q.2.1 = (n : Int) - 1) || decide (q.2.2 = (n : Int) - 1)
def newJ (n : Nat) (q : Tr) : Bool := decide (q.2.2 = (n : Int) - 1)
abbrev F4 := Str × (Int ⊕ Str) × Int × Int
def kV : Int ⊕ Str → V
  | .inl i => .int i
  | .inr z => .str z
def kD : Int ⊕ Str → PyData
  | .inl i => .int i
  | .inr z => .str z
def v4 (q : F4) : List V := [.str q.1, kV q.2.1, .int q.2.2.1, .int q.2.2.2]
def d4 (q : F4) : PyData := .tuple [.str q.1, kD q.2.1, .int q.2.2.1, .int q.2.2.2]
def cF (q : I3) : F4 := ("call", .inl q.1, q.2.1, q.2.2)
def jF (q : Tr) : F4 := ("jump", .inr q.1, q.2.1, q.2.2)
@[irreducible] def spNewM (FC KC : Addr) : Sp := fun vs H Q _ => ∃ f ks cl l ms, vs = [.ref f, .ref l] ∧ FlAt FC KC H f ks cl ∧ (∀ q ∈ cl, ClB ks ms q) ∧ H l = some (.lst (ms.map V.int)) ∧ ms.length ≤ 8 ∧ cl.length ≤ 6 ∧
  ∀ D H', H D = none → Same H H' → GsAt v3 H' D ((mtAll ks ms cl).filter (newM ms.length)) → Q (.ref D) H'
@[irreducible] def spNewJ (FC KC : Addr) : Sp := fun vs H Q _ => ∃ f l ks cl ms, vs = [.ref f, .ref l] ∧ FlAt FC KC H f ks cl ∧ H l = some (.lst (ms.map V.int)) ∧ 1 ≤ ms.length ∧ ms.length ≤ 8 ∧ ks.length ≤ 5 ∧
  ∀ r zs H', NmsOf ks zs → H r = none → Same H H' → TrsAt H' r ((allT ks ms zs).filter (newJ ms.length)) → Q (.ref r) H'
@[irreducible] def spToldF : Sp := fun vs H Q _ => ∃ l m ps ts, vs = [.ref l, .ref m] ∧ GsAt v3 H l ps ∧ TrsAt H m ts ∧ ps.length ≤ 400 ∧ ts.length ≤ 700 ∧ ∀ D H', H D = none → Same H H' → GsAt v4 H' D (ps.map cF ++ ts.map jF) → Q (.ref D) H'
theorem use_allm {FC KC f l : Addr} {ks : K54F.Ks} {cl : List Cl} {ms : List Int} {H : Hp} {Q : VK} {E : XK} (fl : FlAt FC KC H f ks cl) (cb : ∀ q ∈ cl, ClB ks ms q) (el : H l = some (.lst (ms.map V.int))) (m7 : ms.length ≤ 8) (c6 : cl.length ≤ 6)
    (k : ∀ D H', H D = none → Same H H' → GsAt v3 H' D (mtAll ks ms cl) → Q (.ref D) H') : spAllM FC KC [.ref f, .ref l] H Q E := by
  unfold spAllM
  exact ⟨f, ks, cl, l, ms, rfl, fl, cb, el, m7, c6, k⟩
theorem int_dec {i j : Int} : decide (V.int i = V.int j) = decide (i = j) := by
  by_cases c : i = j
  · rw [c, decide_eq_true rfl, decide_eq_true rfl]
  · rw [decide_eq_false c, decide_eq_false fun z => c (V.int.inj z)]
section
variable {P : Program} {w : World} {K : PySem.W.Frag} {mg : Str → Option Value} {base : Heap} {C PC CU CE RC FC KC : Addr}
abbrev s_newest_meetings : Stmt := top 63
theorem sc_newest_meetings : FnScope ["fleet", "moments", "newest", "call", "one", "two"] ["fleet", "moments"] (defScope s_newest_meetings) := ⟨rfl, rfl, rfl, by decide +kernel, rfl, by decide +kernel, by decide +kernel⟩
theorem ok_newm (D : DefK K mg "newest_meetings" s_newest_meetings) (T : TxP K mg) (G_all_meetings : Cal P w K mg base CX0 10 "all_meetings" (spAllM FC KC)) : Cal P w K mg base CX0 11 "newest_meetings" (spNewM FC KC) := by
  refine D.cal sc_newest_meetings (fun _ _ _ _ _ _ us hl => match us, hl with | [_, _], _ => rfl) (fun vs H Q E h => ?_) fun f0 cdv A outer s H vs Q E hr h => ?_
  · unfold spNewM at h; obtain ⟨f, ks, cl, l, ms, rfl, _⟩ := h; rfl
  · unfold spNewM at h; obtain ⟨f, ks, cl, l, ms, rfl, fl, cb, el, m7, c6, k⟩ := h
    refine ⟨_, (pss_cons (ps_set (i := 2) sc_newest_meetings.nd rfl (Or.inr rfl) (pe_op op_sub (pe_callB call_len_seq (by rfl) T.b_len (by decide +kernel) (pa_cons (pv 1) pa_nil)) pe_int))
      (pss_one (ps_ret (pe_lc (own := [("call", 3), ("one", 4), ("two", 5)]) (g := gTup K 3 (gCons (gName 3) (gCons (gName 4) (gCons (gName 5) gNil)))) (by rfl) sc_newest_meetings.nd (pi_list (pe_c G_all_meetings hr (by decide) rfl (pa_cons (pv 0) (pa_cons (pv 1) pa_nil)))) (blkOk_by (own := [("call", 3), ("one", 4), ("two", 5)]) (N := ["fleet", "moments", "newest", "call", "one", "two"]) (sc := defScope s_newest_meetings) (by decide +kernel)) (fun _ _ _ _ _ => pg_tup rfl (pgs_cons (pg_name (i := 3) sc_newest_meetings.nd rfl (Or.inl rfl)) (pgs_cons (pg_name (i := 4) sc_newest_meetings.nd rfl (Or.inl rfl)) (pgs_cons (pg_name (i := 5) sc_newest_meetings.nd rfl (Or.inl rfl)) pgs_nil)))) (fun _ _ _ _ _ => (pts_one (pt_cmpR (r := rIn K false) op_in_seq (pv 2) (pe_tup (pa_cons (pv 4) (pa_cons (pv 5) pa_nil))) rfl))) (fun _ _ _ _ _ => (pe_tup (pa_cons (pv 3) (pa_cons (pv 4) (pa_cons (pv 5) pa_nil))))))))), ?_⟩
    refine ⟨_, rfl, l, _, rfl, .inl (SqL.of el), _, _, rfl, rfl, ?_⟩
    rw [List.length_map]
    refine ⟨_, rfl, _, rfl, use_allm fl cb el m7 c6 fun D0 H1 n0 s1 gm => ?_⟩
    obtain ⟨us, em, tt⟩ := gm
    refine ⟨D0, rfl, ⟨_, SqL.of em⟩, fun D nD => ?_⟩
    have pl := tt.len
    have pb := mtUp_len (ks := ks) (cl := cl) m7 cl.length
    change (mtAll ks ms cl).length ≤ _ at pb
    generalize mtAll ks ms cl = ps at *
    refine lc_list (K := K) (a := D0) (xs := us.map V.ref) (fun n H' => GsAt v3 H' D ((ps.take n).filter (newM ms.length)) ∧ Same H1 H') ⟨.nil upd_same, same_new nD⟩ (fun n H' _ ⟨_, s'⟩ => SqL.of (s' _ _ em)) ?_ ?_
    · rintro n y H' hy ⟨gD, s'⟩
      obtain ⟨t, ht, rfl⟩ : ∃ t, us[n]? = some t ∧ y = .ref t := by
        rw [List.getElem?_map] at hy
        cases c9 : us[n]? with
        | none => rw [c9] at hy; cases hy
        | some t => rw [c9] at hy; exact ⟨t, rfl, (Option.some.inj hy).symm⟩
      obtain ⟨x, hx, et⟩ := tt.at_ ht
      obtain ⟨c, i, j⟩ := x
      have et' := s' _ _ et
      obtain ⟨uD, eD, tD⟩ := gD
      have ul := tD.len
      have fl8 : ((ps.take n).filter (newM ms.length)).length ≤ ps.length := Nat.le_trans (List.length_filter_le ..) (List.length_take_le' ..)
      refine ⟨t, _, rfl, SqT.of et', rfl, _, _, rfl, _, _, rfl, _, _, rfl, rfl, rfl, ?_⟩
      refine ⟨_, rfl, _, rfl, _, rfl, by show 2 ≤ sizeLine; decide, fun t2 n2 => ⟨t2, _, rfl, .inr (SqT.of upd_same), rfl, rfl, _, rfl, ?_⟩⟩
      have g2 := same_new (o := .tup [.int i, .int j]) n2
      generalize upd H' t2 (.tup [.int i, .int j]) = H2 at *
      have eb : inV (V.int ((ms.length : Int) - 1)) [V.int i, V.int j] = newM ms.length (c, i, j) := by
        show ((i == (ms.length : Int) - 1) || ((j == (ms.length : Int) - 1) || false)) = (decide (i = (ms.length : Int) - 1) || decide (j = (ms.length : Int) - 1))
        rw [Bool.or_false]; rfl
      show if inV (V.int ((ms.length : Int) - 1)) [V.int i, V.int j] = true then _ else _
      rw [eb]
      have s2 := s'.trans g2
      cases y : newM ms.length (c, i, j) with
      | false =>
        refine iteFe rfl ⟨?_, s2⟩
        rw [fil_snoc hx, if_neg (by rw [y]; exact Bool.false_ne_true), List.append_nil]
        exact ⟨uD, g2 _ _ eD, tD.same g2⟩
      | true =>
        refine iteTe rfl ⟨_, rfl, _, rfl, _, rfl, by show 3 ≤ sizeLine; decide, fun t3 n3 => ?_⟩
        have g3 := same_new (o := .tup [.int c, .int i, .int j]) n3
        have g23 := g2.trans g3
        refine ⟨_, g23 _ _ eD, by rw [List.length_map, sizeLine_eq]; omega, ?_, same_mut (s2.trans g3) nD⟩
        rw [fil_snoc hx, if_pos y]
        exact GsAt.push (q := (c, i, j)) (g23 _ _ eD) (tD.same g23) upd_same
    · rintro H' ⟨gD, s'⟩
      rw [List.length_map, pl, List.take_length] at gD
      exact k D H' (s1.free nD) (s1.trans s') gD
abbrev s_newest_jumps : Stmt := top 64
theorem sc_newest_jumps : FnScope ["fleet", "moments", "newest", "kind", "early", "late"] ["fleet", "moments"] (defScope s_newest_jumps) := ⟨rfl, rfl, rfl, by decide +kernel, rfl, by decide +kernel, by decide +kernel⟩
theorem ok_newj (D : DefK K mg "newest_jumps" s_newest_jumps) (T : TxP K mg) (G_all_jumps : Cal P w K mg base CX0 6 "all_jumps" (spAllJ FC KC)) : Cal P w K mg base CX0 8 "newest_jumps" (spNewJ FC KC) := by
  refine D.cal sc_newest_jumps (fun _ _ _ _ _ _ us hl => match us, hl with | [_, _], _ => rfl) (fun vs H Q E h => ?_) fun f0 cdv A outer s H vs Q E hr h => ?_
  · unfold spNewJ at h; obtain ⟨f, l, ks, cl, ms, rfl, _⟩ := h; rfl
  · unfold spNewJ at h; obtain ⟨f, l, ks, cl, ms, rfl, fl, el, m1, m7, k5, k⟩ := h
    refine ⟨_, (pss_cons (ps_set (i := 2) sc_newest_jumps.nd rfl (Or.inr rfl) (pe_op op_sub (pe_callB call_len_seq (by rfl) T.b_len (by decide +kernel) (pa_cons (pv 1) pa_nil)) pe_int))
      (pss_one (ps_ret (pe_lc (own := [("kind", 3), ("early", 4), ("late", 5)]) (g := gTup K 3 (gCons (gName 3) (gCons (gName 4) (gCons (gName 5) gNil)))) (by rfl) sc_newest_jumps.nd (pi_list (pe_c G_all_jumps hr (by decide) rfl (pa_cons (pv 0) (pa_cons (pv 1) pa_nil)))) (blkOk_by (own := [("kind", 3), ("early", 4), ("late", 5)]) (N := ["fleet", "moments", "newest", "kind", "early", "late"]) (sc := defScope s_newest_jumps) (by decide +kernel)) (fun _ _ _ _ _ => pg_tup rfl (pgs_cons (pg_name (i := 3) sc_newest_jumps.nd rfl (Or.inl rfl)) (pgs_cons (pg_name (i := 4) sc_newest_jumps.nd rfl (Or.inl rfl)) (pgs_cons (pg_name (i := 5) sc_newest_jumps.nd rfl (Or.inl rfl)) pgs_nil)))) (fun _ _ _ _ _ => (pts_one (pt_cmpR op_eq (pv 5) (pv 2) (nomark _)))) (fun _ _ _ _ _ => (pe_tup (pa_cons (pv 3) (pa_cons (pv 4) (pa_cons (pv 5) pa_nil))))))))), ?_⟩
    refine ⟨_, rfl, l, _, rfl, .inl (SqL.of el), _, _, rfl, rfl, ?_⟩
    rw [List.length_map]
    refine ⟨_, rfl, _, rfl, use_allj fl el m1 m7 k5 fun D0 zs H1 nz n0 s1 gm => ?_⟩
    obtain ⟨us, em, tt⟩ := gm
    refine ⟨D0, rfl, ⟨_, SqL.of em⟩, fun D nD => ?_⟩
    have pl := tt.len
    have pb := allT_few (ks := ks) m7 zs
    have zl := nms_few nz
    generalize hps : allT ks ms zs = ps at *
    refine lc_list (K := K) (a := D0) (xs := us.map V.ref) (fun n H' => TrsAt H' D ((ps.take n).filter (newJ ms.length)) ∧ Same H1 H') ⟨⟨[], upd_same, .nil⟩, same_new nD⟩ (fun n H' _ ⟨_, s'⟩ => SqL.of (s' _ _ em)) ?_ ?_
    · rintro n y H' hy ⟨gD, s'⟩
      obtain ⟨t, ht, rfl⟩ : ∃ t, us[n]? = some t ∧ y = .ref t := by
        rw [List.getElem?_map] at hy
        cases c9 : us[n]? with
        | none => rw [c9] at hy; cases hy
        | some t => rw [c9] at hy; exact ⟨t, rfl, (Option.some.inj hy).symm⟩
      obtain ⟨x, hx, et⟩ := tt.at_ ht
      obtain ⟨c, i, j⟩ := x
      have et' := s' _ _ et
      obtain ⟨uD, eD, tD⟩ := gD
      have ul := tD.len
      have fl8 : ((ps.take n).filter (newJ ms.length)).length ≤ ps.length := Nat.le_trans (List.length_filter_le ..) (List.length_take_le' ..)
      refine ⟨t, _, rfl, SqT.of et', rfl, _, _, rfl, _, _, rfl, _, _, rfl, rfl, rfl, ?_⟩
      refine ⟨_, rfl, _, rfl, rfl, _, rfl, ?_⟩
      rw [int_dec]
      by_cases cc : j = (ms.length : Int) - 1
      · refine iteTe (decide_eq_true cc) ⟨_, rfl, _, rfl, _, rfl, by show 3 ≤ sizeLine; decide, fun t3 n3 => ?_⟩
        have g3 := same_new (o := .tup [.str c, .int i, .int j]) n3
        refine ⟨_, g3 _ _ eD, by rw [List.length_map, sizeLine_eq]; omega, ?_, same_mut (s'.trans g3) nD⟩
        rw [fil_snoc hx, if_pos (show newJ ms.length (c, i, j) = true from decide_eq_true cc)]
        exact TrsAt.push (q := (c, i, j)) (g3 _ _ eD) (tD.same g3) upd_same
      · refine iteFe (decide_eq_false cc) ⟨?_, s'⟩
        rw [fil_snoc hx, if_neg (by show ¬ decide (j = _) = true; rw [decide_eq_false cc]; exact Bool.false_ne_true), List.append_nil]
        exact ⟨uD, eD, tD⟩
    · rintro H' ⟨gD, s'⟩
      rw [List.length_map, pl, List.take_length, ← hps] at gD
      exact k D zs H' nz (s1.free nD) (s1.trans s') gD
abbrev s_told_faults : Stmt := top 65
theorem sc_told_faults : FnScope ["call_faults", "jump_faults", "fault"] ["call_faults", "jump_faults"] (defScope s_told_faults) := ⟨rfl, rfl, rfl, by decide +kernel, rfl, by decide +kernel, by decide +kernel⟩
theorem ok_toldf (D : DefK K mg "told_faults" s_told_faults) : Cal P w K mg base CX0 1 "told_faults" spToldF := by
  refine D.cal sc_told_faults (fun _ _ _ _ _ _ us hl => match us, hl with | [_, _], _ => rfl) (fun vs H Q E h => ?_) fun f0 cdv A outer s H vs Q E hr h => ?_
  · unfold spToldF at h; obtain ⟨l, m, ps, ts, rfl, _⟩ := h; rfl
  · unfold spToldF at h; obtain ⟨l, m, ps, ts, rfl, gl, gm, pf, tf, k⟩ := h
    refine ⟨_, (pss_one (ps_ret (pe_op op_cat (pe_lc (own := [("fault", 2)]) (g := gName 2) (by rfl) sc_told_faults.nd (pi_list (pv 0)) (blkOk_by (own := [("fault", 2)]) (N := ["call_faults", "jump_faults", "fault"]) (sc := defScope s_told_faults) (by decide +kernel)) (fun _ _ _ _ _ => pg_name (i := 2) sc_told_faults.nd rfl (Or.inl rfl)) (fun _ _ _ _ _ => pts_nil) (fun _ _ _ _ _ => (pe_tup (pa_cons pe_str (show PA _ _ (StX.tStar K (tVar 2) tNil) from StX.pa_star (pv 2) pa_nil))))) (pe_lc (own := [("fault", 2)]) (g := gName 2) (by rfl) sc_told_faults.nd (pi_list (pv 1)) (blkOk_by (own := [("fault", 2)]) (N := ["call_faults", "jump_faults", "fault"]) (sc := defScope s_told_faults) (by decide +kernel)) (fun _ _ _ _ _ => pg_name (i := 2) sc_told_faults.nd rfl (Or.inl rfl)) (fun _ _ _ _ _ => pts_nil) (fun _ _ _ _ _ => (pe_tup (pa_cons pe_str (show PA _ _ (StX.tStar K (tVar 2) tNil) from StX.pa_star (pv 2) pa_nil)))))))), ?_⟩
    obtain ⟨us, el, tu⟩ := gl
    obtain ⟨ws, em, tw⟩ := id gm.gs
    have ul := tu.len
    have wl := tw.len
    refine ⟨_, rfl, l, rfl, ⟨_, SqL.of el⟩, fun D nD => ?_⟩
    refine lc_list (K := K) (a := l) (xs := us.map V.ref) (fun n H' => GsAt v4 H' D ((ps.take n).map cF) ∧ Same H H') ⟨.nil upd_same, same_new nD⟩ (fun n H' _ ⟨_, s'⟩ => SqL.of (s' _ _ el)) ?_ ?_
    · rintro n y H' hy ⟨gD, s'⟩
      obtain ⟨t, ht, rfl⟩ : ∃ t, us[n]? = some t ∧ y = .ref t := by
        rw [List.getElem?_map] at hy
        cases c9 : us[n]? with
        | none => rw [c9] at hy; cases hy
        | some t => rw [c9] at hy; exact ⟨t, rfl, (Option.some.inj hy).symm⟩
      obtain ⟨x, hx, et⟩ := tu.at_ ht
      obtain ⟨c, i, j⟩ := x
      obtain ⟨uD, eD, tD⟩ := gD
      have uDl := tD.len
      rw [List.length_map] at uDl
      have tk := List.length_take_le' n ps
      refine ⟨rfl, K54C.yes_if ?_⟩
      refine ⟨_, rfl, t, _, rfl, .inl (SqT.of (s' _ _ et)), by show 4 ≤ sizeLine; decide, fun t3 n3 => ?_⟩
      have g3 := same_new (o := .tup (V.str "call" :: (v3 (c, i, j) ++ []))) n3
      refine ⟨_, g3 _ _ eD, by rw [List.length_map, sizeLine_eq]; omega, ?_, same_mut (s'.trans g3) nD⟩
      rw [List.take_succ, hx, List.map_append]
      exact GsAt.push (q := cF (c, i, j)) (g3 _ _ eD) (tD.same g3) upd_same
    rintro H1 ⟨gD, s1⟩
    rw [List.length_map, ul, List.take_length] at gD
    obtain ⟨uD, eD, tD⟩ := gD
    have uDl := tD.len
    rw [List.length_map] at uDl
    refine ⟨_, rfl, m, rfl, ⟨_, SqL.of (s1 _ _ em)⟩, fun D2 nD2 => ?_⟩
    refine lc_list (K := K) (a := m) (xs := ws.map V.ref) (fun n H' => GsAt v4 H' D2 ((ts.take n).map jF) ∧ Same H1 H') ⟨.nil upd_same, same_new nD2⟩ (fun n H' _ ⟨_, s'⟩ => SqL.of (s' _ _ (s1 _ _ em))) ?_ ?_
    · rintro n y H' hy ⟨gD, s'⟩
      obtain ⟨t, ht, rfl⟩ : ∃ t, ws[n]? = some t ∧ y = .ref t := by
        rw [List.getElem?_map] at hy
        cases c9 : ws[n]? with
        | none => rw [c9] at hy; cases hy
        | some t => rw [c9] at hy; exact ⟨t, rfl, (Option.some.inj hy).symm⟩
      obtain ⟨x, hx, et⟩ := tw.at_ ht
      obtain ⟨c, i, j⟩ := x
      obtain ⟨uD2, eD2, tD2⟩ := gD
      have uDl2 := tD2.len
      rw [List.length_map] at uDl2
      have tk := List.length_take_le' n ts
      refine ⟨rfl, K54C.yes_if ?_⟩
      refine ⟨_, rfl, t, _, rfl, .inl (SqT.of ((s1.trans s') _ _ et)), by show 4 ≤ sizeLine; decide, fun t3 n3 => ?_⟩
      have g3 := same_new (o := .tup (V.str "jump" :: (Tr.v (c, i, j) ++ []))) n3
      refine ⟨_, g3 _ _ eD2, by rw [List.length_map, sizeLine_eq]; omega, ?_, same_mut (s'.trans g3) nD2⟩
      rw [List.take_succ, hx, List.map_append]
      exact GsAt.push (q := jF (c, i, j)) (g3 _ _ eD2) (tD2.same g3) upd_same
    · rintro H2 ⟨gD2, s2⟩
      rw [List.length_map, wl, List.take_length] at gD2
      obtain ⟨uD2, eD2, tD2⟩ := gD2
      have uDl2 := tD2.len
      rw [List.length_map] at uDl2
      refine ⟨D, D2, _, _, rfl, rfl, s2 _ _ eD, eD2, by rw [List.length_map, List.length_map, sizeLine_eq]; omega, fun p np => ?_⟩
      refine k p _ ((s1.trans s2).free np) ((s1.trans s2).trans (same_new np)) ⟨uD ++ uD2, by rw [List.map_append]; exact upd_same, ?_⟩
      have g := same_new (o := .lst (uD.map V.ref ++ uD2.map V.ref)) np
      exact (tD.same (s2.trans g)).app (tD2.same g)
end
end K54
namespace K54
open PySem PySem.Spec PyProof.Rows L2 Jg
local macro_rules | `(tactic| walk_at "rd1") => `(tactic| (first
  | refine ⟨_, rfl, ?_⟩
  | refine ⟨_, _, rfl, rfl, ?_⟩
  | refine ⟨_, _, rfl, ?_⟩
  | refine ⟨rfl, ?_⟩
  | (refine ⟨show (0 : Int) < _ by omega, ?_⟩)
  | (refine ⟨Or.inl ⟨by omega, by omega⟩, ?_⟩)
  | (refine ⟨Or.inr ⟨by omega, by omega⟩, ?_⟩)
  | (refine ⟨(⟨by decide, by decide, by decide⟩ : CPow _ _), ?_⟩)
  | refine Or.inl ⟨_, rfl, ?_⟩
  | refine Or.inr ⟨_, rfl, ?_⟩
  | fail "rd"))
local macro_rules | `(tactic| walk_at "rd") => `(tactic| repeat' walk_at "rd1")
/-! ### the faults of a renewed edition -/
open K54C (Ct CAt CtOk)
def cutE (es : List Ed) (n : Nat) (m : Int) (x : Addr) (c : Ct) : List Ed := es.take (n + 1) ++ [⟨m, 0, x, c⟩]
def fndL (es : List Ed) (ks : K54F.Ks) (cl : List Cl) (zs : List Str) : List F4 := (((mtAll ks (mos es) cl).filter (newM es.length)).filter (refB es cl)).map cF ++ (lockT es ((allT ks (mos es) zs).filter (newJ es.length))).map jF
theorem cut_take {xs : List V} {n : Nat} (h : n < xs.length) : cutV xs none (some ((n : Int) + 1)) = xs.take (n + 1) := by
  unfold cutV
  have e : HT.sIx xs.length xs.length (some ((n : Int) + 1)) = n + 1 := by
    show (if ((n : Int) + 1) < 0 then (((n : Int) + 1) + (xs.length : Int)).toNat else min ((n : Int) + 1).toNat xs.length) = _
    rw [if_neg (by omega)]; omega
  rw [e, HT.sIx_none, Nat.sub_zero, List.drop_zero]
theorem use_newm {FC KC f l : Addr} {ks : K54F.Ks} {cl : List Cl} {ms : List Int} {H : Hp} {Q : VK} {E : XK} (fl : FlAt FC KC H f ks cl) (cb : ∀ q ∈ cl, ClB ks ms q) (el : H l = some (.lst (ms.map V.int))) (m8 : ms.length ≤ 8) (c6 : cl.length ≤ 6)
    (k : ∀ D H', H D = none → Same H H' → GsAt v3 H' D ((mtAll ks ms cl).filter (newM ms.length)) → Q (.ref D) H') : spNewM FC KC [.ref f, .ref l] H Q E := by
  unfold spNewM
  exact ⟨f, ks, cl, l, ms, rfl, fl, cb, el, m8, c6, k⟩
theorem use_newj {FC KC f l : Addr} {ks : K54F.Ks} {cl : List Cl} {ms : List Int} {H : Hp} {Q : VK} {E : XK} (fl : FlAt FC KC H f ks cl) (el : H l = some (.lst (ms.map V.int))) (m1 : 1 ≤ ms.length) (m8 : ms.length ≤ 8) (k5 : ks.length ≤ 5)
    (k : ∀ r zs H', NmsOf ks zs → H r = none → Same H H' → TrsAt H' r ((allT ks ms zs).filter (newJ ms.length)) → Q (.ref r) H') : spNewJ FC KC [.ref f, .ref l] H Q E := by
  unfold spNewJ
  exact ⟨f, l, ks, cl, ms, rfl, fl, el, m1, m8, k5, k⟩
theorem use_toldf {l m : Addr} {ps : List I3} {ts : List Tr} {H : Hp} {Q : VK} {E : XK} (gl : GsAt v3 H l ps) (gm : TrsAt H m ts) (pf : ps.length ≤ 400) (tf : ts.length ≤ 700) (k : ∀ D H', H D = none → Same H H' → GsAt v4 H' D (ps.map cF ++ ts.map jF) → Q (.ref D) H') : spToldF [.ref l, .ref m] H Q E := by
  unfold spToldF
  exact ⟨l, m, ps, ts, rfl, gl, gm, pf, tf, k⟩
theorem use_refd {C FC KC f lc lm : Addr} {es : List Ed} {ks : K54F.Ks} {cl : List Cl} {ps : List I3} {H : Hp} {Q : VK} {E : XK} (fl : FlAt FC KC H f ks cl) (c6 : cl.length ≤ 6) (ec : H lc = some (.lst (es.map fun (e : Ed) => V.ref e.x))) (at_ : ∀ e ∈ es, EdC C H e) (gm : GsAt v3 H lm ps) (few : ps.length ≤ 400) (rg : ∀ q ∈ ps, ∃ c i j : Nat, q = ((c : Int), (i : Int), (j : Int)) ∧ c < cl.length ∧ i < es.length ∧ j < es.length)
    (ok : ∀ q ∈ cl, ∀ e ∈ es, q.z ∈ e.c.us.map (·.z)) (k : ∀ D H', H D = none → Same H H' → GsAt v3 H' D (ps.filter (refB es cl)) → Q (.ref D) H') : spRefd C FC KC [.ref f, .ref lc, .ref lm] H Q E := by
  unfold spRefd
  exact ⟨f, lc, lm, es, ks, cl, ps, rfl, fl, c6, ec, at_, gm, few, rg, ok, k⟩
@[irreducible] def spFF (PC C FC KC : Addr) : Sp := fun vs H Q _ => ∃ (p f : Addr) (n : Nat) (x : Addr) (m : Int) (es : List Ed) (ks : K54F.Ks) (cl : List Cl) (c : Ct), vs = [.ref p, .ref f, .int n, .ref x, .int m] ∧ PlAt PC C H p es ∧ FlAt FC KC H f ks cl ∧ CAt (fun _ => True) C H x c ∧ CtOk c ∧ n < es.length ∧ cl.length ≤ 6 ∧ ks.length ≤ 5 ∧
  (∀ q ∈ cl, ClB ks (mos (cutE es n m x c)) q) ∧ (∀ q ∈ cl, ∀ e ∈ cutE es n m x c, q.z ∈ e.c.us.map (·.z)) ∧ ∀ D zs H', NmsOf ks zs → H D = none → Same H H' → GsAt v4 H' D (fndL (cutE es n m x c) ks cl zs) → Q (.ref D) H'
section
variable {P : Program} {w : World} {K : PySem.W.Frag} {mg : Str → Option Value} {base : Heap} {C PC CU CE CM RC FC KC : Addr}
abbrev s_have_roles : Stmt := top 40
theorem sc_have_roles : FnScope ["value", "roles"] ["value", "roles"] (defScope s_have_roles) := ⟨rfl, rfl, rfl, by decide +kernel, rfl, by decide +kernel, by decide +kernel⟩
abbrev s_check_later : Stmt := top 42
theorem sc_check_later : FnScope ["plan", "number", "moment"] ["plan", "number", "moment"] (defScope s_check_later) := ⟨rfl, rfl, rfl, by decide +kernel, rfl, by decide +kernel, by decide +kernel⟩
abbrev s_found_faults : Stmt := top 68
theorem sc_found_faults : FnScope ["plan", "fleet", "number", "contents", "moment", "moments", "everything", "call_faults", "jump_faults"] ["plan", "fleet", "number", "contents", "moment"] (defScope s_found_faults) := ⟨rfl, rfl, rfl, by decide +kernel, rfl, by decide +kernel, by decide +kernel⟩
theorem ok_ff (D : DefK K mg "_found_faults" s_found_faults) (T : TxP K mg) (PT : PTx K mg PC) (M_mos : Met P w K mg base CX0 1 PC "moments" (spPMoms PC C)) (G_contents_in : Cal P w K mg base CX0 6 "contents_in" (spCIn PC C)) (G_newest_meetings : Cal P w K mg base CX0 11 "newest_meetings" (spNewM FC KC)) (G_newest_jumps : Cal P w K mg base CX0 8 "newest_jumps" (spNewJ FC KC)) (G_refused : Cal P w K mg base CX0 6 "refused" (spRefd C FC KC)) (G_locked_out : Cal P w K mg base CX0 2 "locked_out" (spLocked C)) (G_told_faults : Cal P w K mg base CX0 1 "told_faults" spToldF) : Cal P w K mg base CX0 12 "_found_faults" (spFF PC C FC KC) := by
  refine D.cal sc_found_faults (fun _ _ _ _ _ _ us hl => match us, hl with | [_, _, _, _, _], _ => rfl) (fun vs H Q E h => ?_) fun f0 cdv A outer s H vs Q E hr h => ?_
  · unfold spFF at h; obtain ⟨p, f, n, x, m, es, ks, cl, c, rfl, _⟩ := h; rfl
  · unfold spFF at h; obtain ⟨p, f, n, x, m, es, ks, cl, c, rfl, pl, fl, at_, ok, hn, c6, k5, cb, cz, k⟩ := h
    refine ⟨_, (pss_cons (ps_set (i := 5) sc_found_faults.nd rfl (Or.inl rfl) (pe_lst (StX.pa_star (pe_slice sl_list (pe_mz M_mos PT.cl hr (by decide) (pv 0)) po_none (po_some (pe_op op_add (pv 2) pe_int))) (pa_cons (pv 4) pa_nil))))
      (pss_cons (ps_set (i := 6) sc_found_faults.nd rfl (Or.inl rfl) (pe_lst (StX.pa_star (pe_slice sl_list (pe_c G_contents_in hr (by decide) rfl (pa_cons (pv 0) pa_nil)) po_none (po_some (pe_op op_add (pv 2) pe_int))) (pa_cons (pv 3) pa_nil))))
      (pss_cons (ps_set (i := 7) sc_found_faults.nd rfl (Or.inl rfl) (pe_c G_refused hr (by decide) rfl (pa_cons (pv 1) (pa_cons (pv 6) (pa_cons (pe_c G_newest_meetings hr (by decide) rfl (pa_cons (pv 1) (pa_cons (pv 5) pa_nil))) pa_nil)))))
      (pss_cons (ps_set (i := 8) sc_found_faults.nd rfl (Or.inl rfl) (pe_c G_locked_out hr (by decide) rfl (pa_cons (pv 6) (pa_cons (pe_c G_newest_jumps hr (by decide) rfl (pa_cons (pv 1) (pa_cons (pv 5) pa_nil))) pa_nil))))
      (pss_one (ps_ret (pe_c G_told_faults hr (by decide) rfl (pa_cons (pv 7) (pa_cons (pv 8) pa_nil))))))))), ?_⟩
    obtain ⟨dxp, lp, ep, elp⟩ := id pl.ex
    refine ⟨_, rfl, p, dxp, _, rfl, ep, get_eno _ (by decide +kernel), p, es, rfl, pl, fun l4 H4 n4 s4 e4 => ⟨_, rfl, _, _, rfl, rfl, (n : Int) + 1, rfl, l4, _, rfl, SqL.of e4, fun l5 n5 => ?_⟩⟩
    have n7 := pl.ok.n7
    have e4' : (es.map fun e => V.int e.m) = (mos es).map V.int := by unfold mos; rw [List.map_map]; rfl
    have lE : (cutE es n m x c).length = n + 2 := by unfold cutE; rw [List.length_append, List.length_take]; show min (n + 1) es.length + 1 = n + 2; omega
    have eM : mos (cutE es n m x c) = (mos es).take (n + 1) ++ [m] := by unfold mos cutE; rw [List.map_append, List.map_take]; rfl
    have lM : (mos (cutE es n m x c)).length = n + 2 := by unfold mos; rw [List.length_map, lE]
    rw [cut_take (by rw [List.length_map]; exact hn), e4', ← List.map_take]
    have g5 := same_new (o := .lst (((mos es).take (n + 1)).map V.int)) n5
    have e5 : upd H4 l5 (.lst (((mos es).take (n + 1)).map V.int)) l5 = some (.lst (((mos es).take (n + 1)).map V.int)) := upd_same
    generalize upd H4 l5 (.lst (((mos es).take (n + 1)).map V.int)) = H5 at *
    refine ⟨l5, _, rfl, .inr (SqL.of e5), _, rfl, ?_, fun l6 n6 => ?_⟩
    · rw [List.length_append, List.length_map, List.length_take, sizeLine_eq]; show min (n + 1) _ + 1 ≤ _; omega
    have g6 := same_new (o := .lst (((mos es).take (n + 1)).map V.int ++ [.int m])) n6
    have e6 : upd H5 l6 (.lst (((mos es).take (n + 1)).map V.int ++ [.int m])) l6 = some (.lst ((mos (cutE es n m x c)).map V.int)) := by rw [eM, List.map_append]; exact upd_same
    generalize upd H5 l6 (.lst (((mos es).take (n + 1)).map V.int ++ [.int m])) = H6 at *
    have s6 := (s4.trans g5).trans g6
    refine ⟨_, rfl, p, es, rfl, pl.same s6, fun l7 H7 n7' s7 e7 => ⟨_, rfl, _, _, rfl, rfl, (n : Int) + 1, rfl, l7, _, rfl, SqL.of e7, fun l8 n8 => ?_⟩⟩
    rw [cut_take (by rw [List.length_map]; exact hn), ← List.map_take]
    have g8 := same_new (o := .lst ((es.take (n + 1)).map fun (e : Ed) => V.ref e.x)) n8
    have e8 : upd H7 l8 (.lst ((es.take (n + 1)).map fun (e : Ed) => V.ref e.x)) l8 = some (.lst ((es.take (n + 1)).map fun (e : Ed) => V.ref e.x)) := upd_same
    generalize upd H7 l8 (.lst ((es.take (n + 1)).map fun (e : Ed) => V.ref e.x)) = H8 at *
    refine ⟨l8, _, rfl, .inr (SqL.of e8), _, rfl, ?_, fun l9 n9 => ?_⟩
    · rw [List.length_append, List.length_map, List.length_take, sizeLine_eq]; show min (n + 1) _ + 1 ≤ _; omega
    have g9 := same_new (o := .lst (((es.take (n + 1)).map fun (e : Ed) => V.ref e.x) ++ [.ref x])) n9
    have e9 : upd H8 l9 (.lst (((es.take (n + 1)).map fun (e : Ed) => V.ref e.x) ++ [.ref x])) l9 = some (.lst ((cutE es n m x c).map fun (e : Ed) => V.ref e.x)) := by unfold cutE; rw [List.map_append]; exact upd_same
    generalize upd H8 l9 (.lst (((es.take (n + 1)).map fun (e : Ed) => V.ref e.x) ++ [.ref x])) = H9 at *
    have s69 := (s7.trans g8).trans g9
    have s9 := s6.trans s69
    have eds : ∀ {H' : Hp}, Same H H' → ∀ e ∈ cutE es n m x c, EdC C H' e := fun s e he => by
      rcases List.mem_append.mp he with he | he
      · exact ((pl.eds e (List.mem_of_mem_take he)).c).same s
      · rw [List.mem_singleton.mp he]; exact ⟨at_.same s, ok⟩
    have e69 := s69 _ _ e6
    refine ⟨_, rfl, _, rfl, _, rfl, _, rfl, use_newm (fl.same s9) cb e69 (by rw [lM]; omega) c6 fun lm HA nA sA gm => ?_⟩
    rw [lM, ← lE] at gm
    refine use_refd (fl.same (s9.trans sA)) c6 (sA _ _ e9) (eds (s9.trans sA)) gm ?_ (fun y hy => ?_) cz fun lcf HB nB sB gc => ?_
    · have := mtUp_len (ks := ks) (cl := cl) (ms := mos (cutE es n m x c)) (by rw [lM]; omega) cl.length
      refine Nat.le_trans (List.length_filter_le _ _) ?_
      unfold mtAll; omega
    · obtain ⟨c1, q, i, j, e, li, lj, _, rfl⟩ := mtAll_mem.mp (List.mem_filter.mp hy).1
      rw [lM] at li lj
      exact ⟨c1, i, j, rfl, (List.getElem?_eq_some_iff.mp e).1, by rw [lE]; exact li, by rw [lE]; exact lj⟩
    have sAB := sA.trans sB
    have s9B := s9.trans sAB
    refine ⟨_, rfl, _, rfl, _, rfl, use_newj (fl.same s9B) (sAB _ _ e69) (by rw [lM]; omega) (by rw [lM]; omega) k5 fun lj zs HC nz nC sC gj => ?_⟩
    rw [lM, ← lE] at gj
    refine use_locked ((sAB.trans sC) _ _ e9) (eds (s9B.trans sC)) gj (fun q hq => ?_) ?_ fun lk HD nD sD gk => ?_
    · obtain ⟨i, j, ij, jl, _, e⟩ := jmps_mem.mp (allT_mem (List.mem_filter.mp hq).1).2
      have e1 : q.2.1 = (i : Int) := congrArg (·.1) e
      have e2 : q.2.2 = (j : Int) := congrArg (·.2) e
      rw [lM] at jl
      rw [e1, e2, lE]
      omega
    · have a := allT_few (ks := ks) (ms := mos (cutE es n m x c)) (by rw [lM]; omega) zs
      have b := nms_few nz
      refine Nat.le_trans (List.length_filter_le _ _) ?_
      omega
    have sCD := sC.trans sD
    refine ⟨_, rfl, _, rfl, use_toldf (gc.same sCD) gk ?_ ?_ fun D HE nE sE gD => ?_⟩
    · refine Nat.le_trans (List.length_filter_le _ _) (Nat.le_trans (List.length_filter_le _ _) ?_)
      have := mtUp_len (ks := ks) (cl := cl) (ms := mos (cutE es n m x c)) (by rw [lM]; omega) cl.length
      unfold mtAll; omega
    · have a := allT_few (ks := ks) (ms := mos (cutE es n m x c)) (by rw [lM]; omega) zs
      have b := nms_few nz
      refine Nat.le_trans (List.length_filter_le _ _) (Nat.le_trans (List.length_filter_le _ _) ?_)
      omega
    have sAll := s9B.trans (sCD.trans sE)
    exact k D zs HE nz ((s9B.trans sCD).free nE) sAll gD
end
end K54
namespace K54
open PySem PySem.Spec PyProof.Rows L2 Jg
local macro_rules | `(tactic| walk_at "rd1") => `(tactic| (first
  | refine ⟨_, rfl, ?_⟩
  | refine ⟨_, _, rfl, rfl, ?_⟩
  | refine ⟨_, _, rfl, ?_⟩
  | refine ⟨rfl, ?_⟩
  | (refine ⟨show (0 : Int) < _ by omega, ?_⟩)
  | (refine ⟨Or.inl ⟨by omega, by omega⟩, ?_⟩)
  | (refine ⟨Or.inr ⟨by omega, by omega⟩, ?_⟩)
  | (refine ⟨(⟨by decide, by decide, by decide⟩ : CPow _ _), ?_⟩)
  | refine Or.inl ⟨_, rfl, ?_⟩
  | refine Or.inr ⟨_, rfl, ?_⟩
  | fail "rd"))
local macro_rules | `(tactic| walk_at "rd") => `(tactic| repeat' walk_at "rd1")
/-! ### what the law has drawn and made -/
open K54C (Td TdAt TdsAt TdR TdG Use Wd CtIs StA SameB hid hid_in hid_get hid_same hid_mut)
theorem sameB_hid {p : Addr} {H : Hp} : SameB p H (hid [p] H) := fun q o e n => hid_in e fun z => n (List.mem_singleton.mp z)
structure Drw (lk lc lm lt : Addr) (kr : List KRow) (cl : List Cl) (ms : List Int) (qs : List Addr) (ds : List K54C.Td) (parts keys hands : List Str) (B : Hp) : Prop where
  ek : B lk = some (.lst (kr.map fun k => V.ref k.t))
  ka : ∀ k ∈ kr, KrAt B k
  ec : B lc = some (.lst (cl.map fun q => V.ref q.t))
  ca : ∀ q ∈ cl, ClAt B q
  em : B lm = some (.lst (ms.map V.int))
  et : B lt = some (.lst (qs.map V.ref))
  td : K54C.TdsAt parts keys hands B qs ds
theorem Drw.same {lk lc lm lt : Addr} {kr : List KRow} {cl : List Cl} {ms : List Int} {qs : List Addr} {ds : List K54C.Td} {parts keys hands : List Str} {B B' : Hp} (h : Drw lk lc lm lt kr cl ms qs ds parts keys hands B) (s : Same B B') : Drw lk lc lm lt kr cl ms qs ds parts keys hands B' :=
  ⟨s _ _ h.ek, fun k hk => s _ _ (h.ka k hk), s _ _ h.ec, fun q hq => s _ _ (h.ca q hq), s _ _ h.em, s _ _ h.et, h.td.same s⟩
structure DrwF (kr : List KRow) (cl : List Cl) (ms : List Int) (qs : List Addr) (parts keys hands : List Str) : Prop where
  ko : KrOk kr
  k1 : 1 ≤ kr.length
  k4 : kr.length ≤ 4
  co : ClOk parts (kr.map (·.z)) cl
  c4 : cl.length ≤ 4
  mo : MsOk ms
  m1 : 1 ≤ ms.length
  m7 : ms.length ≤ 7
  ww : K54C.Ww parts keys hands
  ql : qs.length = ms.length
theorem Lrg.drw {p L : Addr} {H : Hp} {lk lc lm lt : Addr} {kr : List KRow} {cl : List Cl} {ms : List Int} {qs : List Addr} {ds : List K54C.Td} {parts keys hands : List Str} (h : Lrg p L H lk lc lm lt kr cl ms qs ds parts keys hands) : Drw lk lc lm lt kr cl ms qs ds parts keys hands (hid [p] H) ∧ DrwF kr cl ms qs parts keys hands :=
  ⟨⟨sameB_hid _ _ h.ek (h.st.no h.ek frefs_no), fun k hk => (h.ka k hk).keep h.st sameB_hid, sameB_hid _ _ h.ec (h.st.no h.ec frefs_no), fun q hq => (h.ca q hq).keep h.st sameB_hid, sameB_hid _ _ h.em h.mp, sameB_hid _ _ h.et (h.st.no h.et K54C.refs_no), h.td.keep h.st sameB_hid⟩,
   ⟨h.ko, h.k1, h.k4, h.co, h.c4, h.mo.1, h.m1, h.m7, h.ww, h.ql⟩⟩
theorem alk_wk {ks : K54F.Ks} {kr : List KRow} (h : Alk ks kr) : K54F.WdKs ks ∧ K54F.Fed ks ∧ ks.map (·.1) = kr.map (·.z) := by
  obtain ⟨nd1, od1, nm1⟩ := kr_ord (i := kr.length) h.ok (by rw [List.take_length]; exact h.e)
  rw [List.take_length] at nm1
  refine ⟨fun e he => ?_, fun e he z ez => ?_, nm1⟩
  · have m : e.1 ∈ ks.map (·.1) := List.mem_map_of_mem he
    rw [nm1] at m
    obtain ⟨k', hk', q⟩ := List.mem_map.mp m
    rw [← q]; exact ⟨(h.ok.wd k' hk').ok.1, (h.ok.wd k' hk').ok.2⟩
  · obtain ⟨j, hj⟩ := List.getElem?_of_mem he
    exact (List.Sublist.map (fun e : Str × K54F.Kd × Addr => e.1) (List.take_sublist j ks)).subset (od1 j e z hj ez)
/-- what holds of a fleet that the law made of these rows -/
structure FlI (kr : List KRow) (cd : List Cl) (ks : K54F.Ks) (cl : List Cl) : Prop where
  al : Alk ks kr
  we : cl.map Cl.w = cd.map Cl.w
theorem use_lplan {PC C lm lt : Addr} {ms : List Int} {qs : List Addr} {ds : List K54C.Td} {parts keys hands : List Str} {H : Hp} {Q : VK} {E : XK} (em : H lm = some (.lst (ms.map V.int))) (et : H lt = some (.lst (qs.map V.ref))) (mo : MsOk ms) (td : K54C.TdsAt parts keys hands H qs ds) (ww : K54C.Ww parts keys hands) (ql : qs.length = ms.length) (m1 : 1 ≤ ms.length) (m7 : ms.length ≤ 7)
    (k : ∀ (x : Addr) (es : List Ed) (H' : Hp), H x = none → Same H H' → PlAt PC C H' x es → mos es = ms → (∀ (i : Nat) (e : Ed), es[i]? = some e → ∃ d, ds[i]? = some d ∧ K54C.CtIs d e.c) → Q (.ref x) H') : spLPlan PC C [.ref lm, .ref lt] H Q E := by
  unfold spLPlan
  exact ⟨lm, lt, ms, qs, ds, parts, keys, hands, rfl, em, et, mo, td, ww, ql, m1, m7, k⟩
theorem late_z {kr : List KRow} {ks : K54F.Ks} (al : Alk ks kr) {z : Str} (mz : z ∈ kr.map (·.z)) : z ∈ ks.map (·.1) ∧ lateK ks z = lateZ kr 5 (some z) := by
  refine ⟨by rw [(alk_wk al).2.2]; exact mz, ?_⟩
  obtain ⟨k, hk, rfl⟩ := List.mem_map.mp mz
  obtain ⟨i, hi⟩ := List.getElem?_of_mem hk
  exact late_eq al hi
theorem FlI.at_ {kr : List KRow} {cd : List Cl} {ks : K54F.Ks} {cl : List Cl} (h : FlI kr cd ks cl) {q : Cl} (hq : q ∈ cl) : ∃ x ∈ cd, Cl.w x = Cl.w q := by
  have m : Cl.w q ∈ cd.map Cl.w := h.we ▸ List.mem_map_of_mem hq
  obtain ⟨x, hx, ex⟩ := List.mem_map.mp m
  exact ⟨x, hx, ex⟩
theorem FlI.len {kr : List KRow} {cd : List Cl} {ks : K54F.Ks} {cl : List Cl} (h : FlI kr cd ks cl) : cl.length = cd.length := by
  have := congrArg List.length h.we
  rwa [List.length_map, List.length_map] at this
theorem FlI.klen {kr : List KRow} {cd : List Cl} {ks : K54F.Ks} {cl : List Cl} (h : FlI kr cd ks cl) : ks.length = kr.length := by
  have := congrArg List.length h.al.e
  rwa [List.length_map, List.length_map] at this
theorem bnd_of {i : Int} (h0 : -(10 ^ 59) ≤ i) (h1 : i ≤ 10 ^ 59) : K54R.Bnd i := by
  have b : K54R.B = 10 ^ 60 := by rw [K54R.B_eq]; decide +kernel
  have c : (10 : Int) ^ 59 < 10 ^ 60 := by decide +kernel
  unfold K54R.Bnd
  rw [b]
  omega
/-- the calls fit moments up to 10 ** 40 -/
theorem FlI.cb {kr : List KRow} {cd : List Cl} {ks : K54F.Ks} {cl : List Cl} {parts : List Str} {ms : List Int} (h : FlI kr cd ks cl) (co : ClOk parts (kr.map (·.z)) cd) (mo : ∀ m ∈ ms, 0 ≤ m ∧ m ≤ 10 ^ 41) : ∀ q ∈ cl, ClB ks ms q := fun q hq => by
  obtain ⟨x, hx, ex⟩ := h.at_ hq
  have ea : x.a = q.a := congrArg (fun w => w.2.1) ex
  have eb : x.b = q.b := congrArg (fun w => w.2.2.1) ex
  have ei : x.i = q.i := congrArg (fun w => w.2.2.2) ex
  have ab := co.ab x hx
  have ii := co.i x hx
  rw [ea, eb] at ab
  rw [ei] at ii
  obtain ⟨a1, a2⟩ := late_z h.al ab.1
  obtain ⟨b1, b2⟩ := late_z h.al ab.2
  have la := lateZ_b h.al.ok 5 (some q.a)
  have lb := lateZ_b h.al.ok 5 (some q.b)
  rw [← a2] at la
  rw [← b2] at lb
  have e5 : (1 : Int) + (5 : Nat) * (3 * 10 ^ 30) ≤ 10 ^ 32 := by decide +kernel
  have e0 : (10 : Int) ^ 40 + 10 ^ 32 + 10 ^ 30 ≤ 10 ^ 59 := by decide +kernel
  have e1 : (0 : Int) ≤ 10 ^ 32 := by decide +kernel
  have e2 : (2 : Int) ≤ 10 ^ 59 := by decide +kernel
  refine ⟨a1, b1, ⟨fun m hm => ?_, fun m hm => ?_, fun m hm => ?_⟩⟩
  · have := mo m hm; exact bnd_of (by omega) (by omega)
  · have := mo m hm; exact bnd_of (by omega) (by omega)
  · have := mo m hm; exact bnd_of (by omega) (by omega)
theorem FlI.so {kr : List KRow} {cd : List Cl} {ks : K54F.Ks} {cl : List Cl} {es : List Ed} (h : FlI kr cd ks cl) (mo : ∀ m ∈ mos es, 0 ≤ m ∧ m ≤ 10 ^ 40) {z : Str} (mz : z ∈ kr.map (·.z)) : SpOk es (lateK ks z) := fun m hm => by
  obtain ⟨a1, a2⟩ := late_z h.al mz
  have la := lateZ_b h.al.ok 5 (some z)
  rw [← a2] at la
  have e5 : (1 : Int) + (5 : Nat) * (3 * 10 ^ 30) ≤ 10 ^ 32 := by decide +kernel
  have e0 : (10 : Int) ^ 40 + 10 ^ 32 + 10 ^ 30 ≤ 10 ^ 59 := by decide +kernel
  have e1 : (0 : Int) ≤ 10 ^ 32 := by decide +kernel
  have e2 : (2 : Int) ≤ 10 ^ 59 := by decide +kernel
  have := mo m hm
  exact ⟨bnd_of (by omega) (by omega), bnd_of (by omega) (by omega)⟩
theorem FlI.cz {kr : List KRow} {cd : List Cl} {ks : K54F.Ks} {cl : List Cl} {parts : List Str} (h : FlI kr cd ks cl) (co : ClOk parts (kr.map (·.z)) cd) : ∀ q ∈ cl, q.z ∈ parts := fun q hq => by
  obtain ⟨x, hx, ex⟩ := h.at_ hq
  have ez : x.z = q.z := congrArg (fun w => w.1) ex
  rw [← ez]; exact co.z x hx
/-- the first edition has all parts of the calls -/
theorem fst_of {es : List Ed} {cl : List Cl} {ms : List Int} {qs : List Addr} {ds : List K54C.Td} {parts keys hands : List Str} {B : Hp} (me : mos es = ms) (m1 : 1 ≤ ms.length) (ql : qs.length = ms.length) (ci : ∀ (i : Nat) (e : Ed), es[i]? = some e → ∃ d, ds[i]? = some d ∧ K54C.CtIs d e.c) (cz : ∀ q ∈ cl, q.z ∈ parts) (td : K54C.TdsAt parts keys hands B qs ds) : ∃ e0, es[0]? = some e0 ∧ missR cl (e0.c.us.map (·.z)) = none := by
  have le : es.length = ms.length := by rw [← me]; unfold mos; rw [List.length_map]
  obtain ⟨e0, h0⟩ : ∃ e0, es[0]? = some e0 := ⟨_, List.getElem?_eq_getElem (by omega)⟩
  obtain ⟨q0, hq⟩ : ∃ q0, qs[0]? = some q0 := ⟨_, List.getElem?_eq_getElem (by rw [ql]; omega)⟩
  obtain ⟨d1, hd, cis⟩ := ci 0 e0 h0
  obtain ⟨d2, hd2, _, tg⟩ := td.at_ hq
  rw [hd] at hd2
  cases hd2
  have ez : e0.c.us.map (·.z) = srtW parts := by rw [cis.zs, tg.zs]
  exact ⟨e0, h0, missR_no fun q hq => by rw [ez]; exact srtW_mem.mpr (cz q hq)⟩
end K54
namespace K54
open PySem PySem.Spec PyProof.Rows L2 Jg
local macro_rules | `(tactic| walk_at "rd1") => `(tactic| (first
  | refine ⟨_, rfl, ?_⟩
  | refine ⟨_, _, rfl, rfl, ?_⟩
  | refine ⟨_, _, rfl, ?_⟩
  | refine ⟨rfl, ?_⟩
  | (refine ⟨show (0 : Int) < _ by omega, ?_⟩)
  | (refine ⟨Or.inl ⟨by omega, by omega⟩, ?_⟩)
  | (refine ⟨Or.inr ⟨by omega, by omega⟩, ?_⟩)
  | (refine ⟨(⟨by decide, by decide, by decide⟩ : CPow _ _), ?_⟩)
  | refine Or.inl ⟨_, rfl, ?_⟩
  | refine Or.inr ⟨_, rfl, ?_⟩
  | fail "rd"))
local macro_rules | `(tactic| walk_at "rd") => `(tactic| repeat' walk_at "rd1")
/-! ### a plan cut -/
open K54C (Ct)
theorem EdsOk.take {es : List Ed} (ok : EdsOk es) (n : Nat) : EdsOk (es.take (n + 1)) := by
  have sub : ∀ {e : Ed}, e ∈ es.take (n + 1) → e ∈ es := fun h => List.mem_of_mem_take h
  have at_ : ∀ {i : Nat} {e : Ed}, (es.take (n + 1))[i]? = some e → es[i]? = some e := fun {i e} h => by
    rw [List.getElem?_take] at h
    split at h
    · exact h
    · cases h
  have n1 := ok.n1
  have n7 := ok.n7
  exact ⟨by rw [List.length_take]; omega, by rw [List.length_take]; omega, fun e he => ok.mo e (sub he), fun i a b ha hb => ok.inc i a b (at_ ha) (at_ hb), fun a ha b hb => ok.rl a (sub ha) b (sub hb)⟩
@[irreducible] def spCut (PC C : Addr) : Sp := fun vs H Q _ => ∃ (p : Addr) (es : List Ed) (n : Nat), vs = [.ref p, .int n] ∧ PlAt PC C H p es ∧ n < es.length ∧ ∀ x es' H', H x = none → Same H H' → PlAt PC C H' x es' → es'.map Ed.k = (es.take (n + 1)).map Ed.k → Q (.ref x) H'
section
variable {P : Program} {w : World} {K : PySem.W.Frag} {mg : Str → Option Value} {base : Heap} {C PC CU CE RC FC KC : Addr}
abbrev s_Plan_cut : Stmt := inClass (top 38) 14
theorem sc_Plan_cut : FnScope ["self", "number"] ["self", "number"] (defScope s_Plan_cut) := ⟨rfl, rfl, rfl, by decide +kernel, rfl, by decide +kernel, by decide +kernel⟩
theorem ok_cut (D : MetK K PC "cut" "Plan.cut" s_Plan_cut) (PT : PTx K mg PC) (M_check : Met P w K mg base (L2.CX P w) 4 PC "_check" (spPCheck K PC C CE)) (M_Plan : Mak P w K mg base CX0 6 "Plan" PC (spPInit PC C)) : Met P w K mg base CX0 8 PC "cut" (spCut PC C) := by
  refine D.met sc_Plan_cut (fun _ _ _ _ _ _ us hl => match us, hl with | [_, _], _ => rfl) (fun vs H Q E h => ?_) fun f cdv A outer s H vs Q E hr h => ?_
  · unfold spCut at h; obtain ⟨p, es, n, rfl, _⟩ := h; rfl
  · unfold spCut at h; obtain ⟨p, es, n, rfl, pl, lt, k⟩ := h
    obtain ⟨⟨dx, l, e1, e2⟩, at_, ok⟩ := id pl
    refine ⟨_, (pss_cons (ps_expr (pe_mS M_check PT.cl takes0 hr (by decide) (pv 0) (pa_cons (pv 1) pa_nil)))
      (pss_one (ps_ret (pe_mk M_Plan hr (by decide) rfl (pa_cons (pe_slice sl_list (pe_fld (pv 0) rfl) po_none (po_some (pe_op op_add (pv 1) pe_int))) pa_nil))))), ?_⟩
    have e0 : (es.map Ed.v).take (n + 1) = (es.take (n + 1)).map Ed.v := List.map_take.symm
    refine ⟨_, rfl, p, dx, _, rfl, e1, get_eno _ (by decide +kernel), _, rfl, p, es, .int n, rfl, pl, .inl ⟨n, rfl, lt, ?_⟩⟩
    refine ⟨_, rfl, p, PC, dx, _, .ref l, rfl, e1, PT.cl, PT.ne, get_e l, _, rfl, ?_⟩
    have ec : cutV (es.map Ed.v) none (some ((n : Int) + 1)) = (es.take (n + 1)).map Ed.v := by
      unfold cutV
      have e : HT.sIx (es.map Ed.v).length (es.map Ed.v).length (some ((n : Int) + 1)) = n + 1 := by
        rw [List.length_map]
        show (if ((n : Int) + 1) < 0 then (((n : Int) + 1) + (es.length : Int)).toNat else min ((n : Int) + 1).toNat es.length) = _
        rw [if_neg (by omega)]; omega
      rw [e, HT.sIx_none, Nat.sub_zero, List.drop_zero, List.map_take]
    refine ⟨_, _, rfl, rfl, (n : Int) + 1, rfl, l, _, rfl, SqL.of e2, fun l2 n2 => ?_⟩
    have g2 := same_new (o := .lst (cutV (es.map Ed.v) none (some ((n : Int) + 1)))) n2
    have el2 : upd H l2 (.lst (cutV (es.map Ed.v) none (some ((n : Int) + 1)))) l2 = some (.lst ((es.take (n + 1)).map Ed.v)) := by rw [ec]; exact upd_same
    generalize upd H l2 (.lst (cutV (es.map Ed.v) none (some ((n : Int) + 1)))) = H2 at *
    intro x dx1 nx ndx nex
    exact ⟨x, dx1, l2, es.take (n + 1), H2, rfl, upd_same, mk_same nx ndx nex, nx, el2, fun e he => (at_ e (List.mem_of_mem_take he)).same g2, ok.take n, fun H' es' pl' ek sH => ⟨rfl, k x es' H' (g2.free nx) (g2.trans sH) pl' ek⟩⟩
end
/-! ### a plan goes on, and goes back -/
open K54C (Ct CAt CtOk hid hid_in hid_get hid_same)
/-- a plan whose editions stand beside it -/
structure PlX (PC C : Addr) (H : Hp) (p : Addr) (es : List Ed) : Prop where
  ex : ∃ dx l, H p = some (.ins PC dx [(("_editions" : Str), .ref l)]) ∧ hid [p] H l = some (.lst (es.map Ed.v))
  eds : ∀ e ∈ es, EdAt C (hid [p] H) e
  ok : EdsOk es
theorem hid_keep {M : List Addr} {H H' : Hp} (s : Same H H') : Same (hid M H) (hid M H') := fun q o e => hid_in (s _ _ (hid_get e).1) (hid_get e).2
theorem PlX.same {PC C p : Addr} {H H' : Hp} {es : List Ed} (h : PlX PC C H p es) (s : Same H H') : PlX PC C H' p es :=
  let ⟨dx, l, e1, e2⟩ := h.ex
  ⟨⟨dx, l, s _ _ e1, hid_keep s _ _ e2⟩, fun e he => (h.eds e he).same (hid_keep s), h.ok⟩
def SameP (p : Addr) (H H' : Hp) : Prop := ∀ q o, H q = some o → q ≠ p → H' q = some o
theorem SameP.hid {p : Addr} {H H' : Hp} (s : SameP p H H') : Same (hid [p] H) (hid [p] H') := fun q o e => by
  obtain ⟨a, b⟩ := hid_get e
  exact hid_in (s _ _ a fun z => b (List.mem_singleton.mpr z)) b
theorem EdsOk.init {es : List Ed} {e : Ed} (ok : EdsOk (es ++ [e])) (n1 : 1 ≤ es.length) : EdsOk es := by
  have n7 := ok.n7
  rw [List.length_append] at n7
  have n7 : es.length + 1 ≤ 7 := n7
  have at_ : ∀ {i : Nat} {a : Ed}, es[i]? = some a → (es ++ [e])[i]? = some a := fun {i a} h => by rw [List.getElem?_append_left (List.getElem?_eq_some_iff.mp h).1]; exact h
  exact ⟨n1, by omega, fun a ha => ok.mo a (List.mem_append.mpr (.inl ha)), fun i a b ha hb => ok.inc i a b (at_ ha) (at_ hb), fun a ha b hb => ok.rl a (List.mem_append.mpr (.inl ha)) b (List.mem_append.mpr (.inl hb))⟩
theorem put_e {l l2 : Addr} : putF ("_editions" : Str) (V.ref l2) [(("_editions" : Str), V.ref l)] = [(("_editions" : Str), V.ref l2)] := by
  show (if (("_editions" : Str)) = ("_editions" : Str) then _ else _) = _
  rw [if_pos rfl]
section
variable {P : Program} {w : World} {K : PySem.W.Frag} {mg : Str → Option Value} {base : Heap} {C PC CU CE RC FC KC : Addr}
abbrev s_Plan_add : Stmt := inClass (top 38) 11
theorem sc_Plan_add : FnScope ["self", "moment", "contents", "number", "editions"] ["self", "moment", "contents"] (defScope s_Plan_add) := ⟨rfl, rfl, rfl, by decide +kernel, rfl, by decide +kernel, by decide +kernel⟩
end
end K54
namespace K54
open PySem PySem.Spec PyProof.Rows L2 Jg
local macro_rules | `(tactic| walk_at "rd1") => `(tactic| (first
  | refine ⟨_, rfl, ?_⟩
  | refine ⟨_, _, rfl, rfl, ?_⟩
  | refine ⟨_, _, rfl, ?_⟩
  | refine ⟨rfl, ?_⟩
  | (refine ⟨show (0 : Int) < _ by omega, ?_⟩)
  | (refine ⟨Or.inl ⟨by omega, by omega⟩, ?_⟩)
  | (refine ⟨Or.inr ⟨by omega, by omega⟩, ?_⟩)
  | (refine ⟨(⟨by decide, by decide, by decide⟩ : CPow _ _), ?_⟩)
  | refine Or.inl ⟨_, rfl, ?_⟩
  | refine Or.inr ⟨_, rfl, ?_⟩
  | fail "rd"))
local macro_rules | `(tactic| walk_at "rd") => `(tactic| repeat' walk_at "rd1")
/-! ### what taking back refuses -/
open K54C (Ct CAt CtOk hid hid_in hid_get hid_same)
def BadM (K : PySem.W.Frag) (H : Hp) (m : Int) (y : V) : Prop := K54F.BadR K H 0 LM y ∨ ∃ i, y = .int i ∧ 0 ≤ i ∧ i ≤ LM ∧ i ≤ m
theorem BadM.keep {K : PySem.W.Frag} {H H' : Hp} {m : Int} {y : V} (h : BadM K H m y) (s : Same H H') : BadM K H' m y := h.elim (fun b => .inl (K54F.BadR.keep b s)) .inr
def spLatX (K : PySem.W.Frag) (PC C CM : Addr) : Sp := fun vs H Q E => ∃ (p : Addr) (es : List Ed) (n : Nat) (e : Ed) (y : V), vs = [.ref p, .int n, y] ∧ PlAt PC C H p es ∧ es[n]? = some e ∧
  ((BadM K H e.m y ∧ ∀ d H', H d = none → Same H H' → H' d = some (.xd [(("value" : Str), y)]) → E (.ref CM) (some d) H') ∨ ∃ m, y = .int m ∧ e.m < m ∧ 0 ≤ m ∧ m ≤ LM ∧ Q .non H)
def spChX (K : PySem.W.Frag) (PC C CE : Addr) : Sp := fun vs H Q E => ∃ (p : Addr) (es : List Ed) (yn : V), vs = [.ref p, yn] ∧ PlAt PC C H p es ∧
  ((K54F.BadR K H 0 (es.length - 1) yn ∧ ∀ d H', H d = none → Same H H' → H' d = some (.xd [(("number" : Str), yn)]) → E (.ref CE) (some d) H') ∨
   (yn = .int 0 ∧ ∀ d H', H d = none → Same H H' → H' d = some (.xd [(("number" : Str), .int 0)]) → E (.ref CE) (some d) H') ∨ ∃ (n : Nat) (e : Ed), yn = .int n ∧ 1 ≤ n ∧ es[n]? = some e ∧ Q .non H)
/-- no contents with these roles -/
def BadC (K : PySem.W.Frag) (C : Addr) (H : Hp) (zs : List Str) (y : V) : Prop := (∃ x c, y = .ref x ∧ CAt (fun _ => True) C H x c ∧ (∀ z ∈ c.us.map (·.z), okW z) ∧ c.us.map (·.z) ≠ zs) ∨ ∃ t, (∀ H', Same H H' → TyX K H' y t) ∧ PySem.W.kitOne K t (.ref C) = some false
theorem BadC.keep {K : PySem.W.Frag} {C : Addr} {H H' : Hp} {zs : List Str} {y : V} (h : BadC K C H zs y) (s : Same H H') : BadC K C H' zs y := by
  rcases h with ⟨x, c, e, a, o, n⟩ | ⟨t, ty, k⟩
  · exact .inl ⟨x, c, e, a.same s, o, n⟩
  · exact .inr ⟨t, fun H2 s2 => ty H2 (s.trans s2), k⟩
def spHaveX (K : PySem.W.Frag) (C : Addr) : Sp := fun vs H Q _ => ∃ (y : V) (l : Addr) (zs : List Str), vs = [y, .ref l] ∧ H l = some (.lst (zs.map V.str)) ∧ (∀ z ∈ zs, okW z) ∧ ((∃ x c, y = .ref x ∧ CAt (fun _ => True) C H x c ∧ c.us.map (·.z) = zs ∧ ∀ H', Same H H' → Q (.bl true) H') ∨ (BadC K C H zs y ∧ ∀ H', Same H H' → Q (.bl false) H'))
section
variable {P : Program} {w : World} {K : PySem.W.Frag} {mg : Str → Option Value} {base : Heap} {C PC CU CE CI CM RC FC KC : Addr}
theorem ok_latx (D : DefK K mg "check_later" s_check_later) (T : TxP K mg) (PT : PTx K mg PC) (G_is_moment : Cal P w K mg base CX0 3 "is_moment" (spMom K)) (M_mo : Met P w K mg base (L2.CX P w) 5 PC "moment_of" (spPOf K PC C CE fun e => .int e.m)) (G_InvalidMoment : ExnB P w K mg base 1 "InvalidMoment" CM (spX CM "value")) : Cal P w K mg base (L2.CX P w) 8 "check_later" (spLatX K PC C CM) := by
  refine D.calX sc_check_later (fun _ _ _ _ _ _ us hl => match us, hl with | [_, _, _], _ => rfl) (fun vs H Q E h => ?_) fun f0 cdv A outer s H vs Q E hr h => ?_
  · obtain ⟨p, es, n, e, y, rfl, _⟩ := h; rfl
  · obtain ⟨p, es, n, e, y, rfl, pl, he, k⟩ := h
    refine ⟨_, (pss_one (ps_if (PW.pt (pw_or (pt_not (pt_val (pe_c G_is_moment hr (by decide) rfl (pa_cons (pv 2) pa_nil)))) (pw_or1 (pt_cmpR op_le (pv 2) (pe_mS M_mo PT.cl (takes_of rfl rfl rfl rfl) hr (by decide) (pv 0) (pa_cons (pv 1) pa_nil)) (nomark _))))) (pss_one (ps_raise rfl (takes_of rfl rfl rfl rfl) (pmk_b G_InvalidMoment hr (by decide) rfl (pa_cons (pv 2) pa_nil)))) pss_nil)), ?_⟩
    obtain ⟨dxp, lp, ep, elp⟩ := id pl.ex
    have ask : ∀ (m : Int) (H' : Hp) (Q' : Bool → Hp → Prop), Same H H' → (Q' (decide (m ≤ e.m)) H') → True := fun _ _ _ _ _ => trivial
    rcases k with ⟨bad, kx⟩ | ⟨m, rfl, lt, m0, mL, k⟩
    · rcases bad with (⟨i, rfl, no⟩ | no) | ⟨i, rfl, i0, iL, le⟩
      · refine ⟨_, rfl, .int i, rfl, .inl ⟨i, rfl, ?_⟩⟩
        rw [no]
        refine ⟨false, rfl, iteT (iteT ?_)⟩
        exact ⟨_, rfl, x_read fun d2 nd => kx d2 _ nd (same_new nd) upd_same⟩
      · refine ⟨_, rfl, y, rfl, .inr ⟨no, ⟨false, rfl, iteT (iteT ?_)⟩⟩⟩
        exact ⟨_, rfl, x_read fun d2 nd => kx d2 _ nd (same_new nd) upd_same⟩
      · refine ⟨_, rfl, .int i, rfl, .inl ⟨i, rfl, ?_⟩⟩
        rw [decide_eq_true i0, decide_eq_true iL]
        refine ⟨true, rfl, iteFe rfl ⟨_, rfl, _, rfl, p, dxp, _, rfl, ep, get_eno _ (by decide +kernel), _, rfl, p, es, .int n, rfl, pl, .inl ⟨n, e, rfl, he, ?_⟩⟩⟩
        refine ⟨_, _, rfl, rfl, _, rfl, iteTe (decide_eq_true le) ?_⟩
        exact ⟨_, rfl, x_read fun d2 nd => kx d2 _ nd (same_new nd) upd_same⟩
    refine ⟨_, rfl, .int m, rfl, .inl ⟨m, rfl, ?_⟩⟩
    rw [decide_eq_true m0, decide_eq_true mL]
    refine ⟨true, rfl, iteFe rfl ⟨_, rfl, _, rfl, p, dxp, _, rfl, ep, get_eno _ (by decide +kernel), _, rfl, p, es, .int n, rfl, pl, .inl ⟨n, e, rfl, he, ?_⟩⟩⟩
    exact ⟨_, _, rfl, rfl, _, rfl, iteFe (decide_eq_false (by omega)) k⟩
abbrev s_check_undone : Stmt := top 67
theorem sc_check_undone : FnScope ["plan", "number"] ["plan", "number"] (defScope s_check_undone) := ⟨rfl, rfl, rfl, by decide +kernel, rfl, by decide +kernel, by decide +kernel⟩
theorem ok_chx (D : DefK K mg "_check_undone" s_check_undone) (PT : PTx K mg PC) (M_mo : Met P w K mg base (L2.CX P w) 5 PC "moment_of" (spPOf K PC C CE fun e => .int e.m)) (G_UnknownEdition : ExnB P w K mg base 1 "UnknownEdition" CE (spX CE "number")) : Cal P w K mg base (L2.CX P w) 8 "_check_undone" (spChX K PC C CE) := by
  refine D.calX sc_check_undone (fun _ _ _ _ _ _ us hl => match us, hl with | [_, _], _ => rfl) (fun vs H Q E h => ?_) fun f0 cdv A outer s H vs Q E hr h => ?_
  · obtain ⟨p, es, yn, rfl, _⟩ := h; rfl
  · obtain ⟨p, es, yn, rfl, pl, k⟩ := h
    refine ⟨_, (pss_cons (ps_expr (pe_mS M_mo PT.cl (takes_of rfl rfl rfl rfl) hr (by decide) (pv 0) (pa_cons (pv 1) pa_nil)))
      (pss_one (ps_if (pt_cmpR op_eq (pv 1) pe_int (nomark _)) (pss_one (ps_raise rfl (takes_of rfl rfl rfl rfl) (pmk_b G_UnknownEdition hr (by decide) rfl (pa_cons pe_int pa_nil)))) pss_nil))), ?_⟩
    obtain ⟨dxp, lp, ep, elp⟩ := id pl.ex
    have n1 := pl.ok.n1
    refine ⟨_, rfl, p, dxp, _, rfl, ep, get_eno _ (by decide +kernel), _, rfl, p, es, yn, rfl, pl, ?_⟩
    rcases k with ⟨bad, kx⟩ | ⟨rfl, kx⟩ | ⟨n, e, rfl, n1', he, k⟩
    · exact .inr ⟨bad, fun d2 H' nd s2 ed => kx d2 H' nd s2 ed⟩
    · obtain ⟨e0, e00⟩ : ∃ e, es[0]? = some e := ⟨_, List.getElem?_eq_getElem (by omega)⟩
      exact .inl ⟨0, e0, rfl, e00, _, rfl, rfl, _, rfl, iteTe rfl (x_read fun d2 nd => kx d2 _ nd (same_new nd) upd_same)⟩
    · refine .inl ⟨n, e, rfl, he, _, rfl, rfl, _, rfl, iteFe (decide_eq_false fun z => by have := V.int.inj z; omega) k⟩
theorem ok_hax (D : DefK K mg "have_roles" s_have_roles) (T : TxP K mg) (J : K54C.CTx K mg C) (P_roles : Prp P w K mg base CX0 1 C "roles" (K54C.spLst C fun c => c.us.map (·.z))) : Cal P w K mg base CX0 4 "have_roles" (spHaveX K C) := by
  refine D.cal sc_have_roles (fun _ _ _ _ _ _ us hl => match us, hl with | [_, _], _ => rfl) (fun vs H Q E h => ?_) fun f0 cdv A outer s H vs Q E hr h => ?_
  · obtain ⟨y, l, zs, rfl, _⟩ := h; rfl
  · obtain ⟨y, l, zs, rfl, el, okz, k⟩ := h
    have hu : (A.deeper (envOfC "have_roles" (defScope s_have_roles) s.heap.objs.size f0 cdv)).units + 64 < cLine := hr.units
    refine ⟨_, (pss_one (ps_ret (pe_and (pe_callB call_isi (by rfl) T.b_isinstance (by decide +kernel) (pa_cons (pv 0) (pa_cons (pe_glob (v := .ref C) rfl J.cC rfl) pa_nil))) (pe_one (pe_cmpR (op_eqD hu) (pe_p P_roles J.cl hr (by decide) (pv 0)) (pv 1) (nomark _)))))), ?_⟩
    have own : ∀ (x : Addr) (c : Ct), CAt (fun _ => True) C H x c → (∀ z ∈ c.us.map (·.z), okW z) → (∀ H', Same H H' → Q (.bl (decide (c.us.map (·.z) = zs))) H') → y = .ref x → _ := fun x c at_ ok q e => (⟨x, c, at_, ok, q, e⟩ : ∃ x c, CAt (fun _ => True) C H x c ∧ (∀ z ∈ c.us.map (·.z), okW z) ∧ (∀ H', Same H H' → Q (.bl (decide (c.us.map (·.z) = zs))) H') ∧ y = .ref x)
    have go : (∃ x c, CAt (fun _ => True) C H x c ∧ (∀ z ∈ c.us.map (·.z), okW z) ∧ (∀ H', Same H H' → Q (.bl (decide (c.us.map (·.z) = zs))) H') ∧ y = .ref x) ∨ ∃ t, (∀ H', Same H H' → TyX K H' y t) ∧ PySem.W.kitOne K t (.ref C) = some false ∧ Q (.bl false) H := by
      rcases k with ⟨x, c, e, at_, ez, q⟩ | ⟨⟨x, c, e, at_, ok, ne⟩ | ⟨t, ty, kf⟩, q⟩
      · exact .inl ⟨x, c, at_, by rw [ez]; exact okz, by rw [decide_eq_true ez]; exact q, e⟩
      · exact .inl ⟨x, c, at_, ok, by rw [decide_eq_false ne]; exact q, e⟩
      · exact .inr ⟨t, ty, kf, q _ (.refl _)⟩
    clear k own
    rcases go with ⟨x, c, at_, ok, q, rfl⟩ | ⟨t, ty, kf, q⟩
    · obtain ⟨⟨dx, d, v, sg, ex, _⟩, _⟩ := id at_
      refine ⟨_, rfl, .ref x, .ref C, _, _, true, rfl, .own C, J.ty ex, J.kCC, _, rfl, iteT ?_⟩
      exact ⟨_, rfl, x, dx, _, rfl, ex, x, c, _, rfl, at_, fun l2 n2 => ⟨_, rfl, ask_eqS (SqL.of upd_same) (SqL.of (same_new n2 _ _ el)) ok okz (q _ (same_new n2))⟩⟩
    · exact ⟨_, rfl, y, .ref C, t, _, false, rfl, .own C, ty _ (.refl _), kf, _, rfl, iteF q⟩
end
end K54
namespace K54
open PySem PySem.Spec PyProof.Rows L2 Jg
local macro_rules | `(tactic| walk_at "rd1") => `(tactic| (first
  | refine ⟨_, rfl, ?_⟩
  | refine ⟨_, _, rfl, rfl, ?_⟩
  | refine ⟨_, _, rfl, ?_⟩
  | refine ⟨rfl, ?_⟩
  | (refine ⟨show (0 : Int) < _ by omega, ?_⟩)
  | (refine ⟨Or.inl ⟨by omega, by omega⟩, ?_⟩)
  | (refine ⟨Or.inr ⟨by omega, by omega⟩, ?_⟩)
  | (refine ⟨(⟨by decide, by decide, by decide⟩ : CPow _ _), ?_⟩)
  | refine Or.inl ⟨_, rfl, ?_⟩
  | refine Or.inr ⟨_, rfl, ?_⟩
  | fail "rd"))
local macro_rules | `(tactic| walk_at "rd") => `(tactic| repeat' walk_at "rd1")
/-! ### a plan that is full -/
open K54C (Ct CAt CtOk hid hid_in hid_get hid_same)
@[irreducible] def spPAddX (PC C CO : Addr) : Sp := fun vs H Q E => ∃ (p : Addr) (m : Int) (x : Addr) (es : List Ed) (c : Ct), vs = [.ref p, .int m, .ref x] ∧ PlX PC C H p es ∧ CAt (fun _ => True) C (hid [p] H) x c ∧ CtOk c ∧
  ((es.length = 7 ∧ ∀ d H', H d = none → Same H H' → H' d = some (.xd [(("limit" : Str), .int 7)]) → E (.ref CO) (some d) H') ∨ ((∀ t, EdsOk (es ++ [⟨m, t, x, c⟩])) ∧ ∀ t H', SameP p H H' → PlX PC C H' p (es ++ [⟨m, t, x, c⟩]) → Q (.int es.length) H'))
section
variable {P : Program} {w : World} {K : PySem.W.Frag} {mg : Str → Option Value} {base : Heap} {C PC CU CE CO RC FC KC : Addr}
theorem ok_pax (D : MetK K PC "add" "Plan.add" s_Plan_add) (T : TxP K mg) (PT : PTx K mg PC) (G_LimitExceeded : ExnB P w K mg base 1 "LimitExceeded" CO (spX CO "limit")) (G_first_wrong : Cal P w K mg base CX0 5 "_first_wrong" (spFw C)) : Met P w K mg base (L2.CX P w) 7 PC "add" (spPAddX PC C CO) := by
  refine D.metX sc_Plan_add (fun _ _ _ _ _ _ us hl => match us, hl with | [_, _, _], _ => rfl) (fun vs H Q E h => ?_) fun f cdv A outer s H vs Q E hr h => ?_
  · unfold spPAddX at h; obtain ⟨p, m, x, es, c, rfl, _⟩ := h; rfl
  · unfold spPAddX at h; obtain ⟨p, m, x, es, c, rfl, pl, at_, ok, k⟩ := h
    refine ⟨_, (pss_cons (ps_set (i := 3) sc_Plan_add.nd rfl (Or.inl rfl) (pe_callB call_len_seq (by rfl) T.b_len (by decide +kernel) (pa_cons (pe_fld (pv 0) rfl) pa_nil)))
      (pss_cons (ps_if (pt_cmpR op_eq (pv 3) (pe_gc rfl T.gMOST_EDITIONS) (nomark _)) (pss_one (ps_raise rfl (takes_of rfl rfl rfl rfl) (pmk_b G_LimitExceeded hr (by decide) rfl (pa_cons (pe_gc rfl T.gMOST_EDITIONS) pa_nil)))) pss_nil)
      (pss_cons (ps_set (i := 4) sc_Plan_add.nd rfl (Or.inl rfl) (pe_lst (StX.pa_star (pe_fld (pv 0) rfl) (pa_cons (pe_tup (pa_cons (pv 1) (pa_cons (pv 2) pa_nil))) pa_nil))))
      (pss_cons (ps_if (pt_cmpR op_notN (pe_c G_first_wrong hr (by decide) rfl (pa_cons (pv 4) pa_nil)) pe_non (nomark _)) (pss_one ps_never) pss_nil)
      (pss_cons (ps_fld (pv 0) (pv 4) rfl)
      (pss_one (ps_ret (pv 3)))))))), ?_⟩
    obtain ⟨dx, l, e1, e2h⟩ := id pl.ex
    have e2 := (hid_get e2h).1
    refine ⟨_, rfl, p, PC, dx, _, .ref l, rfl, e1, PT.cl, PT.ne, get_e l, l, _, rfl, .inl (SqL.of e2), ?_⟩
    rw [List.length_map]
    rcases k with ⟨l7, kx⟩ | ⟨eo, k⟩
    · exact ⟨_, rfl, rfl, _, rfl, iteTe (decide_eq_true (by rw [l7]; rfl)) (x_read fun d2 nd => kx d2 _ nd (same_new nd) upd_same)⟩
    have n7 : es.length + 1 ≤ 7 := by have := (eo 0).n7; rw [List.length_append] at this; exact this
    refine ⟨_, rfl, rfl, _, rfl, iteFe (decide_eq_false fun z => by have := V.int.inj z; omega) ?_⟩
    refine ⟨_, rfl, p, PC, dx, _, .ref l, rfl, e1, PT.cl, PT.ne, get_e l, l, _, rfl, .inr (SqL.of e2), _, rfl, _, rfl, by show 2 ≤ sizeLine; decide, fun t nt => ⟨by rw [List.length_append, List.length_map, sizeLine_eq]; show es.length + 1 ≤ _; omega, fun l2 n2 => ?_⟩⟩
    have g1 := same_new (o := .tup [.int m, .ref x]) nt
    have e1t : upd H t (.tup [.int m, .ref x]) t = some (.tup [.int m, .ref x]) := upd_same
    generalize upd H t (.tup [.int m, .ref x]) = H1 at *
    have g2 := same_new (o := .lst (es.map Ed.v ++ [V.ref t])) n2
    have el2 : upd H1 l2 (.lst (es.map Ed.v ++ [V.ref t])) l2 = some (.lst ((es ++ [(⟨m, t, x, c⟩ : Ed)]).map Ed.v)) := by rw [List.map_append]; exact upd_same
    generalize upd H1 l2 (.lst (es.map Ed.v ++ [V.ref t])) = H2 at *
    have s2 := g1.trans g2
    have tp : t ≠ p := fun z => by rw [z, e1] at nt; cases nt
    have l2p : l2 ≠ p := fun z => by have := g1 _ _ e1; rw [z, this] at n2; cases n2
    refine ⟨_, rfl, l2, es ++ [(⟨m, t, x, c⟩ : Ed)], rfl, el2, fun e he => ?_, eo t, fun H3 s3 => ?_⟩
    · rcases List.mem_append.mp he with h | h
      · exact (pl.eds e h).same (hid_same.trans s2)
      · rw [List.mem_singleton.mp h]; exact ⟨g2 _ _ e1t, at_.same (hid_same.trans s2), ok⟩
    refine ⟨rfl, _, rfl, iteFe (by rw [decide_eq_true rfl]; rfl) ?_⟩
    have s03 := s2.trans s3
    refine ⟨_, rfl, _, rfl, p, PC, dx, _, rfl, s03 _ _ e1, PT.cl, PT.ne, by show 1 < 1000; decide, _, rfl, ?_⟩
    rw [put_e]
    have sP : SameP p H (upd H3 p (.ins PC dx [(("_editions" : Str), V.ref l2)])) := fun q o e n => by rw [upd_ne n]; exact s03 _ _ e
    have at3 : ∀ {q : Addr} {o : HO}, H3 q = some o → q ≠ p → hid [p] (upd H3 p (.ins PC dx [(("_editions" : Str), V.ref l2)])) q = some o := fun e n => hid_in (by rw [upd_ne n]; exact e) fun z => n (List.mem_singleton.mp z)
    refine k t _ sP ⟨⟨dx, l2, upd_same, at3 (s3 _ _ el2) l2p⟩, fun e he => ?_, eo t⟩
    rcases List.mem_append.mp he with h | h
    · exact (pl.eds e h).same sP.hid
    · rw [List.mem_singleton.mp h]; exact ⟨at3 ((g2.trans s3) _ _ e1t) tp, at_.same sP.hid, ok⟩
end
end K54
namespace K54
open PySem PySem.Spec PyProof.Rows L2 Jg
local macro_rules | `(tactic| walk_at "rd1") => `(tactic| (first
  | refine ⟨_, rfl, ?_⟩
  | refine ⟨_, _, rfl, rfl, ?_⟩
  | refine ⟨_, _, rfl, ?_⟩
  | refine ⟨rfl, ?_⟩
  | (refine ⟨show (0 : Int) < _ by omega, ?_⟩)
  | (refine ⟨Or.inl ⟨by omega, by omega⟩, ?_⟩)
  | (refine ⟨Or.inr ⟨by omega, by omega⟩, ?_⟩)
  | (refine ⟨(⟨by decide, by decide, by decide⟩ : CPow _ _), ?_⟩)
  | refine Or.inl ⟨_, rfl, ?_⟩
  | refine Or.inr ⟨_, rfl, ?_⟩
  | fail "rd"))
local macro_rules | `(tactic| walk_at "rd") => `(tactic| repeat' walk_at "rd1")
/-! ### what the functions of taking back refuse -/
open K54C (Ct CAt CtOk hid hid_in hid_get hid_same)
abbrev ErrAt (E : XK) (H : Hp) (cls : Addr) (f : Str) (y : V) : Prop := ∀ d H', H d = none → Same H H' → H' d = some (.xd [(f, y)]) → E (.ref cls) (some d) H'
@[irreducible] def spRenX (K : PySem.W.Frag) (PC C FC KC CU CE CI CM : Addr) : Sp := fun vs H Q E => ∃ (p f : Addr) (es : List Ed) (ks : K54F.Ks) (cl : List Cl) (e0 : Ed) (yn yc ym : V), vs = [.ref p, .ref f, yn, yc, ym] ∧ PlAt PC C H p es ∧ FlAt FC KC H f ks cl ∧ es[0]? = some e0 ∧ cl.length ≤ 6 ∧ ks.length ≤ 5 ∧
  ((∃ z, missR cl (e0.c.us.map (·.z)) = some z ∧ ErrAt E H CU "name" (.str z)) ∨ (missR cl (e0.c.us.map (·.z)) = none ∧ ((K54F.BadR K H 0 (es.length - 1) yn ∧ ErrAt E H CE "number" yn) ∨ ∃ (n : Nat) (e : Ed), yn = .int n ∧ es[n]? = some e ∧
    ((BadC K C H (e.c.us.map (·.z)) yc ∧ ErrAt E H CI "part" .non) ∨ ∃ (x : Addr) (c : Ct), yc = .ref x ∧ CAt (fun _ => True) C H x c ∧ CtOk c ∧ c.us.map (·.z) = e.c.us.map (·.z) ∧
      ((BadM K H e.m ym ∧ ErrAt E H CM "value" ym) ∨ ∃ m, ym = .int m ∧ e.m < m ∧ m ≤ LM ∧ (∀ q ∈ cl, ClB ks (mos (cutE es n m x c)) q) ∧ ∀ D H', Same H H' → Q (.ref D) H')))))
@[irreducible] def spUnX (K : PySem.W.Frag) (PC C FC KC CU CE : Addr) : Sp := fun vs H Q E => ∃ (p f : Addr) (es : List Ed) (ks : K54F.Ks) (cl : List Cl) (e0 : Ed) (yn : V), vs = [.ref p, .ref f, yn] ∧ PlAt PC C H p es ∧ FlAt FC KC H f ks cl ∧ es[0]? = some e0 ∧
  ((∃ z, missR cl (e0.c.us.map (·.z)) = some z ∧ ErrAt E H CU "name" (.str z)) ∨ (missR cl (e0.c.us.map (·.z)) = none ∧ ((K54F.BadR K H 0 (es.length - 1) yn ∧ ErrAt E H CE "number" yn) ∨ (yn = .int 0 ∧ ErrAt E H CE "number" (.int 0)))))
@[irreducible] def spUdX (K : PySem.W.Frag) (PC C CE CM CO : Addr) : Sp := fun vs H Q E => ∃ (p : Addr) (es : List Ed) (yn ym : V), vs = [.ref p, yn, ym] ∧ PlAt PC C H p es ∧
  ((K54F.BadR K H 0 (es.length - 1) yn ∧ ErrAt E H CE "number" yn) ∨ (yn = .int 0 ∧ ErrAt E H CE "number" (.int 0)) ∨ ∃ (n : Nat) (e : Ed), yn = .int n ∧ 1 ≤ n ∧ es[n]? = some e ∧
    ((BadM K H e.m ym ∧ ErrAt E H CM "value" ym) ∨ ∃ m, ym = .int m ∧ e.m < m ∧ m ≤ LM ∧ ((n = 6 ∧ ErrAt E H CO "limit" (.int 7)) ∨ (n ≤ 5 ∧ ∀ x H', Same H H' → Q (.ref x) H'))))
@[irreducible] def spNmX (PC C FC KC CU : Addr) : Sp := fun vs H Q E => ∃ (p f : Addr) (es : List Ed) (ks : K54F.Ks) (cl : List Cl) (e0 : Ed) (z : Str), vs = [.ref p, .ref f] ∧ PlAt PC C H p es ∧ FlAt FC KC H f ks cl ∧ es[0]? = some e0 ∧ missR cl (e0.c.us.map (·.z)) = some z ∧ ErrAt E H CU "name" (.str z)
theorem missR_all {cl : List Cl} {zs : List Str} (h : missR cl zs = none) : ∀ p ∈ cl, p.z ∈ zs := fun p hp => by
  unfold missR at h
  have z := List.find?_eq_none.mp (Option.map_eq_none_iff.mp h) p hp
  simpa using z
theorem use_ff {PC C FC KC p f x : Addr} {n : Nat} {m : Int} {es : List Ed} {ks : K54F.Ks} {cl : List Cl} {c : Ct} {H : Hp} {Q : VK} {E : XK} (pl : PlAt PC C H p es) (fl : FlAt FC KC H f ks cl) (at_ : CAt (fun _ => True) C H x c) (ok : CtOk c) (hn : n < es.length) (c6 : cl.length ≤ 6) (k5 : ks.length ≤ 5)
    (cb : ∀ q ∈ cl, ClB ks (mos (cutE es n m x c)) q) (cz : ∀ q ∈ cl, ∀ e ∈ cutE es n m x c, q.z ∈ e.c.us.map (·.z)) (k : ∀ D zs H', NmsOf ks zs → H D = none → Same H H' → GsAt v4 H' D (fndL (cutE es n m x c) ks cl zs) → Q (.ref D) H') : spFF PC C FC KC [.ref p, .ref f, .int n, .ref x, .int m] H Q E := by
  unfold spFF
  exact ⟨p, f, n, x, m, es, ks, cl, c, rfl, pl, fl, at_, ok, hn, c6, k5, cb, cz, k⟩
theorem use_cut {PC C p : Addr} {es : List Ed} {n : Nat} {H : Hp} {Q : VK} {E : XK} (pl : PlAt PC C H p es) (hn : n < es.length) (k : ∀ x es' H', H x = none → Same H H' → PlAt PC C H' x es' → es'.map Ed.k = (es.take (n + 1)).map Ed.k → Q (.ref x) H') : spCut PC C [.ref p, .int n] H Q E := by
  unfold spCut
  exact ⟨p, es, n, rfl, pl, hn, k⟩
theorem use_pax {PC C CO p x : Addr} {m : Int} {es : List Ed} {c : Ct} {H : Hp} {Q : VK} {E : XK} (pl : PlX PC C H p es) (at_ : CAt (fun _ => True) C (hid [p] H) x c) (ok : CtOk c) (k : (es.length = 7 ∧ ∀ d H', H d = none → Same H H' → H' d = some (.xd [(("limit" : Str), .int 7)]) → E (.ref CO) (some d) H') ∨ ((∀ t, EdsOk (es ++ [⟨m, t, x, c⟩])) ∧ ∀ t H', SameP p H H' → PlX PC C H' p (es ++ [⟨m, t, x, c⟩]) → Q (.int es.length) H')) : spPAddX PC C CO [.ref p, .int m, .ref x] H Q E := by
  unfold spPAddX
  exact ⟨p, m, x, es, c, rfl, pl, at_, ok, k⟩
theorem k_at {es es' : List Ed} (h : es'.map Ed.k = es.map Ed.k) {i : Nat} {e : Ed} (he : es'[i]? = some e) : ∃ a, es[i]? = some a ∧ a.m = e.m ∧ a.x = e.x ∧ a.c = e.c := by
  have z := congrArg (fun l => l[i]?) h
  simp only [List.getElem?_map, he] at z
  cases c : es[i]? with
  | none => rw [c] at z; cases z
  | some a =>
    rw [c] at z
    have z := Option.some.inj z
    unfold Ed.k at z
    simp only [Prod.mk.injEq] at z
    exact ⟨a, rfl, z.1.symm, z.2.1.symm, z.2.2.symm⟩
theorem k_mem {es es' : List Ed} (h : es'.map Ed.k = es.map Ed.k) {e : Ed} (he : e ∈ es') : ∃ a ∈ es, a.m = e.m ∧ a.x = e.x ∧ a.c = e.c := by
  obtain ⟨i, hi⟩ := List.getElem?_of_mem he
  obtain ⟨a, ha, r⟩ := k_at h hi
  exact ⟨a, List.mem_of_getElem? ha, r⟩
theorem EdsOk.more {es : List Ed} {m : Int} {t x : Addr} {c : Ct} {e b : Ed} (ok : EdsOk es) (l7 : es.length + 1 ≤ 7) (he : es[es.length - 1]? = some e) (lt : e.m < m) (mL : m ≤ LM) (hb : b ∈ es) (cr : c.us.map (·.z) = b.c.us.map (·.z)) : EdsOk (es ++ [⟨m, t, x, c⟩]) := by
  have n1 := ok.n1
  have m0 := (ok.mo e (List.mem_of_getElem? he)).1
  refine ⟨by rw [List.length_append]; show 1 ≤ _ + 1; omega, by rw [List.length_append]; exact l7, fun a ha => ?_, fun i a a' h1 h2 => ?_, fun a ha a' ha' => ?_⟩
  · rcases List.mem_append.mp ha with h | h
    · exact ok.mo a h
    · rw [List.mem_singleton.mp h]; exact ⟨by show 0 ≤ m; omega, mL⟩
  · have l2 := (List.getElem?_eq_some_iff.mp h2).1
    rw [List.length_append] at l2
    have l2 : i + 1 < es.length + 1 := l2
    rw [List.getElem?_append_left (by omega)] at h1
    by_cases c1 : i + 1 < es.length
    · rw [List.getElem?_append_left c1] at h2
      exact ok.inc i a a' h1 h2
    · have ei : i = es.length - 1 := by omega
      subst ei
      rw [he] at h1
      cases Option.some.inj h1
      rw [List.getElem?_append_right (by omega), show es.length - 1 + 1 - es.length = 0 by omega] at h2
      cases Option.some.inj h2
      exact lt
  · have r : ∀ {a : Ed}, a ∈ es ++ [⟨m, t, x, c⟩] → a.c.us.map (·.z) = b.c.us.map (·.z) := fun {a} ha => by
      rcases List.mem_append.mp ha with h | h
      · exact ok.rl a h b hb
      · rw [List.mem_singleton.mp h]; exact cr
    rw [r ha, r ha']
theorem plx_of {PC C x : Addr} {H H2 : Hp} {es es' : List Ed} (pl : PlAt PC C H2 x es') (nx : H x = none) (s : Same H H2) (at_ : ∀ e ∈ es, EdAt C H e) (k : es'.map Ed.k = es.map Ed.k) : PlX PC C H2 x es' := by
  obtain ⟨dx, l, e1, e2⟩ := id pl.ex
  have off : ∀ {q : Addr} {o : HO}, H2 q = some o → (∀ dx fs, o ≠ .ins PC dx fs) → hid [x] H2 q = some o := fun {q o} e n => hid_in e fun z => by
    rw [List.mem_singleton.mp z, e1] at e
    exact n _ _ (Option.some.inj e).symm
  have sh : Same H (hid [x] H2) := fun q o e => hid_in (s _ _ e) fun z => by rw [List.mem_singleton.mp z, nx] at e; cases e
  refine ⟨⟨dx, l, e1, off e2 fun _ _ z => nomatch z⟩, fun e he => ?_, pl.ok⟩
  obtain ⟨a, ha, _, ax, ac⟩ := k_mem k he
  have A := (at_ a ha).same sh
  exact ⟨off (pl.eds e he).tp (fun _ _ z => nomatch z), by rw [← ax, ← ac]; exact A.ct, by rw [← ac]; exact A.ok⟩
section
variable {P : Program} {w : World} {K : PySem.W.Frag} {mg : Str → Option Value} {base : Heap} {C PC CU CE CI CM CO RC FC KC : Addr}
abbrev s_renewed_faults : Stmt := top 69
theorem sc_renewed_faults : FnScope ["plan", "fleet", "number", "contents", "moment", "roles"] ["plan", "fleet", "number", "contents", "moment"] (defScope s_renewed_faults) := ⟨rfl, rfl, rfl, by decide +kernel, rfl, by decide +kernel, by decide +kernel⟩
theorem ok_rex (D : DefK K mg "renewed_faults" s_renewed_faults) (PT : PTx K mg PC) (J : K54C.CTx K mg C) (G_check_roles : Cal P w K mg base (L2.CX P w) 3 "check_roles" (spChR C FC KC CU)) (M_co : Met P w K mg base (L2.CX P w) 5 PC "contents_of" (spPOf K PC C CE fun e => .ref e.x)) (P_roles : Prp P w K mg base CX0 1 C "roles" (K54C.spLst C fun c => c.us.map (·.z))) (G_have_roles : Cal P w K mg base CX0 4 "have_roles" (spHaveX K C)) (G_check_later : Cal P w K mg base (L2.CX P w) 8 "check_later" (spLatX K PC C CM)) (G_found_faults : Cal P w K mg base CX0 12 "_found_faults" (spFF PC C FC KC)) (G_InvalidContents : ExnB P w K mg base 1 "InvalidContents" CI (spX CI "part")) : Cal P w K mg base (L2.CX P w) 13 "renewed_faults" (spRenX K PC C FC KC CU CE CI CM) := by
  refine D.calX sc_renewed_faults (fun _ _ _ _ _ _ us hl => match us, hl with | [_, _, _, _, _], _ => rfl) (fun vs H Q E h => ?_) fun f0 cdv A outer s H vs Q E hr h => ?_
  · unfold spRenX at h; obtain ⟨p, f, es, ks, cl, e0, yn, yc, ym, rfl, _⟩ := h; rfl
  · unfold spRenX at h; obtain ⟨p, f, es, ks, cl, e0, yn, yc, ym, rfl, pl, fl, e00, c6, k5, k⟩ := h
    refine ⟨_, (pss_cons (ps_expr (pe_cS G_check_roles (takes_of rfl rfl rfl rfl) hr (by decide) rfl (pa_cons (pe_mS M_co PT.cl (takes_of rfl rfl rfl rfl) hr (by decide) (pv 0) (pa_cons pe_int pa_nil)) (pa_cons (pv 1) pa_nil))))
      (pss_cons (ps_set (i := 5) sc_renewed_faults.nd rfl (Or.inl rfl) (pe_p P_roles J.cl hr (by decide) (pe_mS M_co PT.cl (takes_of rfl rfl rfl rfl) hr (by decide) (pv 0) (pa_cons (pv 2) pa_nil))))
      (pss_cons (ps_if (pt_not (pt_val (pe_c G_have_roles hr (by decide) rfl (pa_cons (pv 3) (pa_cons (pv 5) pa_nil))))) (pss_one (ps_raise rfl (takes_of rfl rfl rfl rfl) (pmk_b G_InvalidContents hr (by decide) rfl (pa_cons pe_non pa_nil)))) pss_nil)
      (pss_cons (ps_expr (pe_cS G_check_later (takes_of rfl rfl rfl rfl) hr (by decide) rfl (pa_cons (pv 0) (pa_cons (pv 2) (pa_cons (pv 4) pa_nil)))))
      (pss_one (ps_ret (pe_c G_found_faults hr (by decide) rfl (pa_cons (pv 0) (pa_cons (pv 1) (pa_cons (pv 2) (pa_cons (pv 3) (pa_cons (pv 4) pa_nil)))))))))))), ?_⟩
    obtain ⟨dxp, lp, ep, elp⟩ := id pl.ex
    have he0 := List.mem_of_getElem? e00
    refine ⟨_, rfl, p, dxp, _, rfl, ep, get_eno _ (by decide +kernel), p, es, .int 0, rfl, pl, .inl ⟨0, e0, rfl, e00, ?_⟩⟩
    refine ⟨_, rfl, e0.x, e0.c, _, f, ks, cl, rfl, (pl.eds e0 he0).ct, fl, ?_⟩
    rcases k with ⟨z, ms, kx⟩ | ⟨mr, k⟩
    · exact .inr ⟨z, ms, fun d2 H' nd s2 ed => kx d2 H' nd s2 ed⟩
    refine .inl ⟨mr, fun H1 s1 => ?_⟩
    have pl1 := pl.same s1
    refine ⟨_, rfl, p, dxp, _, rfl, s1 _ _ ep, get_eno _ (by decide +kernel), _, rfl, p, es, yn, rfl, pl1, ?_⟩
    rcases k with ⟨bad, kx⟩ | ⟨n, e, rfl, he, k⟩
    · exact .inr ⟨K54F.BadR.keep bad s1, fun d2 H' nd s2 ed => kx d2 H' (s1.free nd) (s1.trans s2) ed⟩
    have hem := List.mem_of_getElem? he
    have A1 := pl1.eds e hem
    obtain ⟨⟨dx2, d2, v2, sg2, ex2, _⟩, _⟩ := id A1.ct
    refine .inl ⟨n, e, rfl, he, e.x, dx2, _, rfl, ex2, e.x, e.c, _, rfl, A1.ct, fun l2 n2 => ?_⟩
    have g2 := same_new (o := .lst ((e.c.us.map (·.z)).map V.str)) n2
    have e2 : upd H1 l2 (.lst ((e.c.us.map (·.z)).map V.str)) l2 = some (.lst ((e.c.us.map (·.z)).map V.str)) := upd_same
    generalize upd H1 l2 (.lst ((e.c.us.map (·.z)).map V.str)) = H2 at *
    have s2 := s1.trans g2
    refine ⟨_, rfl, _, rfl, yc, l2, _, rfl, e2, okW_role A1.ok, ?_⟩
    rcases k with ⟨bad, kx⟩ | ⟨x, c, rfl, at_, ok, cr, k⟩
    · exact .inr ⟨bad.keep s2, fun H3 s3 => ⟨_, rfl, iteT (x_read fun d2 nd => kx d2 _ ((s2.trans s3).free nd) ((s2.trans s3).trans (same_new nd)) upd_same)⟩⟩
    refine .inl ⟨x, c, rfl, at_.same s2, cr, fun H3 s3 => ⟨_, rfl, iteF ?_⟩⟩
    have s23 := s2.trans s3
    refine ⟨_, rfl, _, rfl, _, rfl, p, es, n, e, ym, rfl, pl.same s23, he, ?_⟩
    rcases k with ⟨bad, kx⟩ | ⟨m, rfl, lt, mL, cb, k⟩
    · exact .inl ⟨bad.keep s23, fun d2 H' nd s4 ed => kx d2 H' (s23.free nd) (s23.trans s4) ed⟩
    have m0 := (pl.ok.mo e hem).1
    refine .inr ⟨m, rfl, lt, by omega, mL, ?_⟩
    refine ⟨_, rfl, _, rfl, _, rfl, _, rfl, _, rfl, use_ff (pl.same s23) (fl.same s23) (at_.same s23) ok (List.getElem?_eq_some_iff.mp he).1 c6 k5 cb (fun q hq e' he' => ?_) fun D zs H' nz nD s' g => k D H' (s23.trans s')⟩
    have z0 := missR_all mr q hq
    rcases List.mem_append.mp he' with h | h
    · rw [pl.ok.rl e' (List.mem_of_mem_take h) e0 he0]; exact z0
    · rw [List.mem_singleton.mp h]
      show q.z ∈ c.us.map (·.z)
      rw [cr, pl.ok.rl e hem e0 he0]; exact z0
abbrev s_undo_faults : Stmt := top 70
theorem sc_undo_faults : FnScope ["plan", "fleet", "number"] ["plan", "fleet", "number"] (defScope s_undo_faults) := ⟨rfl, rfl, rfl, by decide +kernel, rfl, by decide +kernel, by decide +kernel⟩
theorem ok_unx (D : DefK K mg "undo_faults" s_undo_faults) (PT : PTx K mg PC) (J : K54C.CTx K mg C) (G_check_roles : Cal P w K mg base (L2.CX P w) 3 "check_roles" (spChR C FC KC CU)) (M_co : Met P w K mg base (L2.CX P w) 5 PC "contents_of" (spPOf K PC C CE fun e => .ref e.x)) (M_mo : Met P w K mg base (L2.CX P w) 5 PC "moment_of" (spPOf K PC C CE fun e => .int e.m)) (G_check_undone : Cal P w K mg base (L2.CX P w) 8 "_check_undone" (spChX K PC C CE)) (G_found_faults : Cal P w K mg base CX0 12 "_found_faults" (spFF PC C FC KC)) : Cal P w K mg base (L2.CX P w) 13 "undo_faults" (spUnX K PC C FC KC CU CE) := by
  refine D.calX sc_undo_faults (fun _ _ _ _ _ _ us hl => match us, hl with | [_, _, _], _ => rfl) (fun vs H Q E h => ?_) fun f0 cdv A outer s H vs Q E hr h => ?_
  · unfold spUnX at h; obtain ⟨p, f, es, ks, cl, e0, yn, rfl, _⟩ := h; rfl
  · unfold spUnX at h; obtain ⟨p, f, es, ks, cl, e0, yn, rfl, pl, fl, e00, k⟩ := h
    refine ⟨_, (pss_cons (ps_expr (pe_cS G_check_roles (takes_of rfl rfl rfl rfl) hr (by decide) rfl (pa_cons (pe_mS M_co PT.cl (takes_of rfl rfl rfl rfl) hr (by decide) (pv 0) (pa_cons pe_int pa_nil)) (pa_cons (pv 1) pa_nil))))
      (pss_cons (ps_expr (pe_cS G_check_undone (takes_of rfl rfl rfl rfl) hr (by decide) rfl (pa_cons (pv 0) (pa_cons (pv 2) pa_nil))))
      (pss_one (ps_ret (pe_c G_found_faults hr (by decide) rfl (pa_cons (pv 0) (pa_cons (pv 1) (pa_cons (pv 2) (pa_cons (pe_mS M_co PT.cl (takes_of rfl rfl rfl rfl) hr (by decide) (pv 0) (pa_cons (pe_op op_sub (pv 2) pe_int) pa_nil)) (pa_cons (pe_op op_add (pe_mS M_mo PT.cl (takes_of rfl rfl rfl rfl) hr (by decide) (pv 0) (pa_cons (pv 2) pa_nil)) pe_int) pa_nil)))))))))), ?_⟩
    obtain ⟨dxp, lp, ep, elp⟩ := id pl.ex
    have he0 := List.mem_of_getElem? e00
    refine ⟨_, rfl, p, dxp, _, rfl, ep, get_eno _ (by decide +kernel), p, es, .int 0, rfl, pl, .inl ⟨0, e0, rfl, e00, ?_⟩⟩
    refine ⟨_, rfl, e0.x, e0.c, _, f, ks, cl, rfl, (pl.eds e0 he0).ct, fl, ?_⟩
    rcases k with ⟨z, ms, kx⟩ | ⟨mr, k⟩
    · exact .inr ⟨z, ms, fun d2 H' nd s2 ed => kx d2 H' nd s2 ed⟩
    refine .inl ⟨mr, fun H1 s1 => ?_⟩
    refine ⟨_, rfl, _, rfl, p, es, yn, rfl, pl.same s1, ?_⟩
    rcases k with ⟨bad, kx⟩ | ⟨rfl, kx⟩
    · exact .inl ⟨K54F.BadR.keep bad s1, fun d2 H' nd s2 ed => kx d2 H' (s1.free nd) (s1.trans s2) ed⟩
    · exact .inr (.inl ⟨rfl, fun d2 H' nd s2 ed => kx d2 H' (s1.free nd) (s1.trans s2) ed⟩)
abbrev s_first_stuck : Stmt := top 71
theorem sc_first_stuck : FnScope ["plan", "fleet", "number"] ["plan", "fleet"] (defScope s_first_stuck) := ⟨rfl, rfl, rfl, by decide +kernel, rfl, by decide +kernel, by decide +kernel⟩
theorem ok_fsx (D : DefK K mg "first_stuck" s_first_stuck) (T : TxP K mg) (PT : PTx K mg PC) (G_check_roles : Cal P w K mg base (L2.CX P w) 3 "check_roles" (spChR C FC KC CU)) (M_co : Met P w K mg base (L2.CX P w) 5 PC "contents_of" (spPOf K PC C CE fun e => .ref e.x)) (M_plen : Met P w K mg base CX0 1 PC "__len__" (spPLen PC C)) (G_undo_faults : Cal P w K mg base (L2.CX P w) 13 "undo_faults" (spUnX K PC C FC KC CU CE)) : Cal P w K mg base (L2.CX P w) 14 "first_stuck" (spNmX PC C FC KC CU) := by
  refine D.calX sc_first_stuck (fun _ _ _ _ _ _ us hl => match us, hl with | [_, _], _ => rfl) (fun vs H Q E h => ?_) fun f0 cdv A outer s H vs Q E hr h => ?_
  · unfold spNmX at h; obtain ⟨p, f, es, ks, cl, e0, z, rfl, _⟩ := h; rfl
  · unfold spNmX at h; obtain ⟨p, f, es, ks, cl, e0, z, rfl, pl, fl, e00, ms, kx⟩ := h
    refine ⟨_, (pss_cons (ps_expr (pe_cS G_check_roles (takes_of rfl rfl rfl rfl) hr (by decide) rfl (pa_cons (pe_mS M_co PT.cl (takes_of rfl rfl rfl rfl) hr (by decide) (pv 0) (pa_cons pe_int pa_nil)) (pa_cons (pv 1) pa_nil))))
      (pss_cons (ps_for (passes_of rfl) rfl (pi_range2W (by rfl) T.b_range (pa_cons pe_int (pa_cons (pe_callB (call_lenO M_plen hr (by decide)) (by rfl) T.b_len (by decide +kernel) (pa_cons (pv 0) pa_nil)) pa_nil))) (pg_name (i := 2) sc_first_stuck.nd rfl (Or.inl rfl)) (pss_one (ps_if (pt_truth (pe_cS G_undo_faults (takes_of rfl rfl rfl rfl) hr (by decide) rfl (pa_cons (pv 0) (pa_cons (pv 1) (pa_cons (pv 2) pa_nil)))) (fun _ => rfl)) (pss_one (ps_ret (pv 2))) pss_nil)))
      (pss_one (ps_ret pe_non)))), ?_⟩
    obtain ⟨dxp, lp, ep, elp⟩ := id pl.ex
    have he0 := List.mem_of_getElem? e00
    refine ⟨_, rfl, p, dxp, _, rfl, ep, get_eno _ (by decide +kernel), p, es, .int 0, rfl, pl, .inl ⟨0, e0, rfl, e00, ?_⟩⟩
    exact ⟨_, rfl, e0.x, e0.c, _, f, ks, cl, rfl, (pl.eds e0 he0).ct, fl, .inr ⟨z, ms, fun d2 H' nd s2 ed => kx d2 H' nd s2 ed⟩⟩
abbrev s_is_undoable : Stmt := top 72
theorem sc_is_undoable : FnScope ["plan", "fleet"] ["plan", "fleet"] (defScope s_is_undoable) := ⟨rfl, rfl, rfl, by decide +kernel, rfl, by decide +kernel, by decide +kernel⟩
theorem ok_isx (D : DefK K mg "is_undoable" s_is_undoable) (G_first_stuck : Cal P w K mg base (L2.CX P w) 14 "first_stuck" (spNmX PC C FC KC CU)) : Cal P w K mg base (L2.CX P w) 15 "is_undoable" (spNmX PC C FC KC CU) := by
  refine D.calX sc_is_undoable (fun _ _ _ _ _ _ us hl => match us, hl with | [_, _], _ => rfl) (fun vs H Q E h => ?_) fun f0 cdv A outer s H vs Q E hr h => ?_
  · unfold spNmX at h; obtain ⟨p, f, es, ks, cl, e0, z, rfl, _⟩ := h; rfl
  · refine ⟨_, (pss_one (ps_ret (pe_cmpR op_isN (pe_cS G_first_stuck (takes_of rfl rfl rfl rfl) hr (by decide) rfl (pa_cons (pv 0) (pa_cons (pv 1) pa_nil))) pe_non (nomark _)))), ?_⟩
    have h' := h
    unfold spNmX at h'
    obtain ⟨p, f, es, ks, cl, e0, z, rfl, pl, fl, e00, ms, kx⟩ := h'
    refine ⟨_, rfl, _, rfl, ?_⟩
    unfold spNmX
    exact ⟨p, f, es, ks, cl, e0, z, rfl, pl, fl, e00, ms, kx⟩
abbrev s_undone : Stmt := top 73
theorem sc_undone : FnScope ["plan", "number", "moment", "made"] ["plan", "number", "moment"] (defScope s_undone) := ⟨rfl, rfl, rfl, by decide +kernel, rfl, by decide +kernel, by decide +kernel⟩
theorem ok_udx (D : DefK K mg "undone" s_undone) (PT : PTx K mg PC) (G_check_undone : Cal P w K mg base (L2.CX P w) 8 "_check_undone" (spChX K PC C CE)) (G_check_later : Cal P w K mg base (L2.CX P w) 8 "check_later" (spLatX K PC C CM)) (M_cut : Met P w K mg base CX0 8 PC "cut" (spCut PC C)) (M_co : Met P w K mg base (L2.CX P w) 5 PC "contents_of" (spPOf K PC C CE fun e => .ref e.x)) (M_padd : Met P w K mg base (L2.CX P w) 7 PC "add" (spPAddX PC C CO)) : Cal P w K mg base (L2.CX P w) 10 "undone" (spUdX K PC C CE CM CO) := by
  refine D.calX sc_undone (fun _ _ _ _ _ _ us hl => match us, hl with | [_, _, _], _ => rfl) (fun vs H Q E h => ?_) fun f0 cdv A outer s H vs Q E hr h => ?_
  · unfold spUdX at h; obtain ⟨p, es, yn, ym, rfl, _⟩ := h; rfl
  · unfold spUdX at h; obtain ⟨p, es, yn, ym, rfl, pl, k⟩ := h
    refine ⟨_, (pss_cons (ps_expr (pe_cS G_check_undone (takes_of rfl rfl rfl rfl) hr (by decide) rfl (pa_cons (pv 0) (pa_cons (pv 1) pa_nil))))
      (pss_cons (ps_expr (pe_cS G_check_later (takes_of rfl rfl rfl rfl) hr (by decide) rfl (pa_cons (pv 0) (pa_cons (pv 1) (pa_cons (pv 2) pa_nil)))))
      (pss_cons (ps_set (i := 3) sc_undone.nd rfl (Or.inl rfl) (pe_m M_cut PT.cl hr (by decide) (pv 0) (pa_cons (pv 1) pa_nil)))
      (pss_cons (ps_expr (pe_mS M_padd PT.cl (takes_of rfl rfl rfl rfl) hr (by decide) (pv 3) (pa_cons (pv 2) (pa_cons (pe_mS M_co PT.cl (takes_of rfl rfl rfl rfl) hr (by decide) (pv 0) (pa_cons (pe_op op_sub (pv 1) pe_int) pa_nil)) pa_nil))))
      (pss_one (ps_ret (pv 3))))))), ?_⟩
    obtain ⟨dxp, lp, ep, elp⟩ := id pl.ex
    refine ⟨_, rfl, _, rfl, p, es, yn, rfl, pl, ?_⟩
    rcases k with ⟨bad, kx⟩ | ⟨rfl, kx⟩ | ⟨n, e, rfl, n1, he, k⟩
    · exact .inl ⟨bad, fun d2 H' nd s2 ed => kx d2 H' nd s2 ed⟩
    · exact .inr (.inl ⟨rfl, fun d2 H' nd s2 ed => kx d2 H' nd s2 ed⟩)
    have hn := (List.getElem?_eq_some_iff.mp he).1
    have m0 := (pl.ok.mo e (List.mem_of_getElem? he)).1
    obtain ⟨b, hb⟩ : ∃ e, es[n - 1]? = some e := ⟨_, List.getElem?_eq_getElem (by omega)⟩
    refine .inr (.inr ⟨n, e, rfl, n1, he, ?_⟩)
    refine ⟨_, rfl, _, rfl, _, rfl, p, es, n, e, ym, rfl, pl, he, ?_⟩
    rcases k with ⟨bad, kx⟩ | ⟨m, rfl, lt, mL, k⟩
    · exact .inl ⟨bad, fun d2 H' nd s2 ed => kx d2 H' nd s2 ed⟩
    refine .inr ⟨m, rfl, lt, by omega, mL, ?_⟩
    refine ⟨_, rfl, p, dxp, _, rfl, ep, get_eno _ (by decide +kernel), _, rfl, use_cut pl hn fun x es' H2 nx s2 pl2 ek => ?_⟩
    have px := plx_of pl2 nx s2 (fun e he => pl.eds e (List.mem_of_mem_take he)) ek
    obtain ⟨dxx, lx, exx, elx⟩ := id px.ex
    have hbm := List.mem_of_getElem? hb
    have n7 := pl.ok.n7
    have len : es'.length = n + 1 := by
      have z := congrArg List.length ek
      rw [List.length_map, List.length_map, List.length_take] at z
      omega
    obtain ⟨e9, he9⟩ : ∃ a, es'[es'.length - 1]? = some a := ⟨_, List.getElem?_eq_getElem (by omega)⟩
    obtain ⟨a9, ha9, am, _, _⟩ := k_at ek he9
    have e9m : e9.m = e.m := by
      rw [len, List.getElem?_take, if_pos (by omega), show n + 1 - 1 = n by omega, he] at ha9
      cases Option.some.inj ha9
      exact am.symm
    obtain ⟨b9, hb9⟩ : ∃ a, es'[n - 1]? = some a := ⟨_, List.getElem?_eq_getElem (by omega)⟩
    obtain ⟨c9, hc9, _, _, bc⟩ := k_at ek hb9
    have bc9 : b9.c = b.c := by
      rw [List.getElem?_take, if_pos (by omega), hb] at hc9
      cases Option.some.inj hc9
      exact bc.symm
    have sx : Same H (hid [x] H2) := fun q o e => hid_in (s2 _ _ e) fun z => by rw [List.mem_singleton.mp z, nx] at e; cases e
    have A := (pl.eds b hbm).same sx
    refine ⟨_, rfl, x, dxx, _, rfl, exx, get_eno _ (by decide +kernel), _, rfl, _, rfl, p, dxp, _, rfl, s2 _ _ ep, get_eno _ (by decide +kernel), _, rfl, _, _, rfl, rfl, p, es, _, rfl, pl.same s2, .inl ⟨n - 1, b, by show V.int ((n : Int) - 1) = _; rw [show (n : Int) - 1 = ((n - 1 : Nat) : Int) by omega], hb, ?_⟩⟩
    rcases k with ⟨n6, kx⟩ | ⟨n5, k⟩
    · exact use_pax px A.ct A.ok (.inl ⟨by omega, fun d H' nd s' ed => kx d H' (s2.free nd) (s2.trans s') ed⟩)
    refine use_pax px A.ct A.ok (.inr ⟨fun t => px.ok.more (by omega) he9 (by omega) mL (List.mem_of_getElem? hb9) (by rw [bc9]), fun t H3 s3 px3 => ?_⟩)
    have sH : Same H H3 := fun q o e => s3 _ _ (s2 _ _ e) (fun z => by rw [z, nx] at e; cases e)
    exact ⟨_, rfl, k x H3 sH⟩
end
end K54
namespace K54
open PySem PySem.Spec PyProof.Rows L2 Jg
local macro_rules | `(tactic| walk_at "rd1") => `(tactic| (first
  | refine ⟨_, rfl, ?_⟩
  | refine ⟨_, _, rfl, rfl, ?_⟩
  | refine ⟨_, _, rfl, ?_⟩
  | refine ⟨rfl, ?_⟩
  | (refine ⟨show (0 : Int) < _ by omega, ?_⟩)
  | (refine ⟨Or.inl ⟨by omega, by omega⟩, ?_⟩)
  | (refine ⟨Or.inr ⟨by omega, by omega⟩, ?_⟩)
  | (refine ⟨(⟨by decide, by decide, by decide⟩ : CPow _ _), ?_⟩)
  | refine Or.inl ⟨_, rfl, ?_⟩
  | refine Or.inr ⟨_, rfl, ?_⟩
  | fail "rd"))
local macro_rules | `(tactic| walk_at "rd") => `(tactic| repeat' walk_at "rd1")
/-! ### values that a display makes (as in law_k08) -/
open K54C (hid hid_in hid_get hid_same hid_mut)
theorem hid_nil {H : Hp} : hid [] H = H := funext fun q => if_neg (by simp)
def Mono (P : Hp → V → Prop) : Prop := ∀ H H' v, Same H H' → P H v → P H' v
structure Gv (H0 : Hp) (σ : L2.St) (te : TE) (P : Hp → V → Prop) : Prop where
  mo : Mono P
  run : ∀ (M : List Addr) (H : Hp) (Q : VK), Same H0 (hid M H) → (∀ q ∈ M, H q ≠ none) → (∀ v H', Same H H' → P (hid M H') v → Q v H') → te σ H Q
structure GvA (H0 : Hp) (σ : L2.St) (t : TA) (Ps : List (Hp → V → Prop)) : Prop where
  mo : ∀ P ∈ Ps, Mono P
  run : ∀ (M : List Addr) (H : Hp) (Q : List V → Hp → Prop), Same H0 (hid M H) → (∀ q ∈ M, H q ≠ none) → (∀ vs H', Same H H' → Paired (fun v P => P (hid M H') v) vs Ps → Q vs H') → t σ H Q
theorem par_mono {H H' : Hp} (s : Same H H') : ∀ {vs : List V} {Ps : List (Hp → V → Prop)}, (∀ P ∈ Ps, Mono P) → Paired (fun v P => P H v) vs Ps → Paired (fun v P => P H' v) vs Ps
  | _, _, _, .nil => .nil
  | _, _, m, .cons a r => .cons (m _ List.mem_cons_self _ _ _ s a) (par_mono s (fun P h => m P (List.mem_cons_of_mem _ h)) r)
theorem par_len {F : V → (Hp → V → Prop) → Prop} : ∀ {vs : List V} {Ps : List (Hp → V → Prop)}, Paired F vs Ps → vs.length = Ps.length
  | _, _, .nil => rfl
  | _, _, .cons _ r => by rw [List.length_cons, List.length_cons, par_len r]
theorem gva_nil {H0 : Hp} {σ : L2.St} : GvA H0 σ tNil [] := ⟨(fun _ h => nomatch h), fun M H Q s n q => q [] H (.refl _) .nil⟩
theorem gva_cons {H0 : Hp} {σ : L2.St} {te : TE} {t : TA} {P : Hp → V → Prop} {Ps : List (Hp → V → Prop)} (h : Gv H0 σ te P) (r : GvA H0 σ t Ps) : GvA H0 σ (tCons te t) (P :: Ps) :=
  ⟨fun R hR => (List.mem_cons.mp hR).elim (fun e => e ▸ h.mo) (r.mo R), fun M H Q s n q => h.run M H _ s n fun v H1 s1 p1 => r.run M H1 _ (s.trans (hid_keep s1)) (fun x hx z => by
    cases c : H x with
    | none => exact n x hx c
    | some o => rw [s1 _ _ c] at z; cases z) fun vs H2 s2 p2 => q (v :: vs) H2 (s1.trans s2) (.cons (h.mo _ _ _ (hid_keep s2) p1) p2)⟩
theorem gv_c {H0 : Hp} {σ : L2.St} {v : V} {P : Hp → V → Prop} (mo : Mono P) (h : ∀ H, Same H0 H → P H v) : Gv H0 σ (tC v) P := ⟨mo, fun M H Q s _ q => q v H (.refl _) (h _ s)⟩
theorem gv_v {H0 : Hp} {σ : L2.St} {i : Nat} {v : V} {P : Hp → V → Prop} (e : σ[i]? = some (some v)) (mo : Mono P) (h : ∀ H, Same H0 H → P H v) : Gv H0 σ (tVar i) P := ⟨mo, fun M H Q s _ q => ⟨v, e, q v H (.refl _) (h _ s)⟩⟩
theorem Gv.imp {H0 : Hp} {σ : L2.St} {te : TE} {P P' : Hp → V → Prop} (h : Gv H0 σ te P) (mo : Mono P') (i : ∀ H v, Same H0 H → P H v → P' H v) : Gv H0 σ te P' := ⟨mo, fun M H Q s n q => h.run M H Q s n fun v H' s' p => q v H' s' (i _ v (s.trans (hid_keep s')) p)⟩
theorem gv_seq {H0 : Hp} {σ : L2.St} {te : TE} {t : TA} {P : Hp → V → Prop} {Ps : List (Hp → V → Prop)} {o : List V → HO} (mo : Mono P) (h : GvA H0 σ t Ps)
    (ht : ∀ H Q, t σ H (fun xs H1 => xs.length ≤ sizeLine ∧ ∀ p, H1 p = none → Q (.ref p) (upd H1 p (o xs))) → te σ H Q) (few : Ps.length ≤ 1000) (k : ∀ H p vs, Same H0 H → H p = some (o vs) → Paired (fun v P => P H v) vs Ps → P H (.ref p)) : Gv H0 σ te P :=
  ⟨mo, fun M H Q s n q => ht H Q (h.run M H _ s n fun vs H1 s1 p1 => ⟨by rw [par_len p1, sizeLine_eq]; omega, fun p np => q _ _ (same_new' s1 np) (k _ _ vs (s.trans (hid_keep (same_new' s1 np))) (hid_in upd_same (fun z => n p z (s1.free np))) (par_mono (hid_keep (same_new np)) h.mo p1))⟩)⟩
theorem gv_lst {H0 : Hp} {σ : L2.St} {t : TA} {P : Hp → V → Prop} {Ps : List (Hp → V → Prop)} (mo : Mono P) (h : GvA H0 σ t Ps) (few : Ps.length ≤ 1000) (k : ∀ H p vs, Same H0 H → H p = some (.lst vs) → Paired (fun v P => P H v) vs Ps → P H (.ref p)) : Gv H0 σ (tLst t) P :=
  gv_seq (o := .lst) mo h (fun _ _ z => z) few k
theorem gv_tup {H0 : Hp} {σ : L2.St} {t : TA} {P : Hp → V → Prop} {Ps : List (Hp → V → Prop)} (mo : Mono P) (h : GvA H0 σ t Ps) (few : Ps.length ≤ 1000) (k : ∀ H p vs, Same H0 H → H p = some (.tup vs) → Paired (fun v P => P H v) vs Ps → P H (.ref p)) : Gv H0 σ (tTup t) P :=
  gv_seq (o := .tup) mo h (fun _ _ z => z) few k
theorem mono_eq {y : V} : Mono (fun _ v => v = y) := fun _ _ _ _ h => h
theorem gva_go {H0 : Hp} {σ : L2.St} {t : TA} {Ps : List (Hp → V → Prop)} {Q : List V → Hp → Prop} (g : GvA H0 σ t Ps) (k : ∀ vs H', Same H0 H' → Paired (fun v P => P H' v) vs Ps → Q vs H') : t σ H0 Q :=
  g.run [] H0 Q (by rw [hid_nil]; exact .refl _) (fun _ h => nomatch h) fun vs H' s p => k vs H' s (by rw [hid_nil] at p; exact p)
theorem par_rep {H : Hp} {P : Hp → V → Prop} : ∀ {n : Nat} {vs : List V}, Paired (fun v P => P H v) vs (List.replicate n P) → ∀ v ∈ vs, P H v
  | 0, _, .nil, _, h => nomatch h
  | n + 1, _, .cons a r, v, h => (List.mem_cons.mp h).elim (fun e => e ▸ a) (par_rep r v)
theorem gvl_go {H0 : Hp} {σ : L2.St} {t : TA} {Ps : List (Hp → V → Prop)} {Q : VK} (g : GvA H0 σ t Ps) (few : Ps.length ≤ 1000) (k : ∀ l vs H', H0 l = none → Same H0 H' → H' l = some (.lst vs) → Paired (fun v P => P H' v) vs Ps → Q (.ref l) H') : tLst t σ H0 Q :=
  gva_go g fun vs H1 s1 p => ⟨by rw [par_len p, sizeLine_eq]; omega, fun l nl => k l vs _ (s1.free nl) (same_new' s1 nl) upd_same (par_mono (same_new nl) g.mo p)⟩
/-! ### a heap without its tables -/
def noT (H : Hp) : Hp := fun b => match H b with | some (.tbl _) => none | o => o
theorem noT_at {H : Hp} {p : Addr} {o : HO} (h : H p = some o) (n : ∀ ps, o ≠ .tbl ps) : noT H p = some o := by
  unfold noT
  rw [h]
  cases o with
  | tbl ps => exact absurd rfl (n ps)
  | _ => rfl
theorem noT_get {H : Hp} {p : Addr} {o : HO} (h : noT H p = some o) : H p = some o ∧ ∀ ps, o ≠ .tbl ps := by
  unfold noT at h
  cases e : H p with
  | none => rw [e] at h; cases h
  | some u =>
    rw [e] at h
    cases u with
    | tbl ps => cases h
    | _ => (cases h; exact ⟨rfl, fun ps z => nomatch z⟩)
theorem noT_same {H : Hp} : Same (noT H) H := fun b o e => (noT_get e).1
theorem noT_keep {H H' : Hp} (s : Same H H') : Same (noT H) (noT H') := fun b o e => noT_at (s _ _ (noT_get e).1) (noT_get e).2
theorem Tabs.same {T : List (Addr × Str)} {H H' : Hp} (t : LamX.Tabs T H) (s : Same H H') : LamX.Tabs T H' := LamX.Tabs.ext t s
def Mo (P : Hp → V → Prop) : Hp → V → Prop := fun H v => P (noT H) v
theorem mono_mo {P : Hp → V → Prop} (h : Mono P) : Mono (Mo P) := fun _ _ _ s q => h _ _ _ (noT_keep s) q
/-! ### values that are none -/
theorem okd {x : Str} (h : PyData.strOk x = true) : okW x := h
def ShwF (K : PySem.W.Frag) (H : Hp) (y : V) : Prop := ∃ tx, okW tx ∧ ∀ H', Same H H' → Shw K H' y tx
theorem ShwF.keep {K : PySem.W.Frag} {H H' : Hp} {y : V} (h : ShwF K H y) (s : Same H H') : ShwF K H' y := let ⟨t, o, k⟩ := h; ⟨t, o, fun H2 s2 => k H2 (s.trans s2)⟩
/-! ### texts whose signs are signs -/
def Fc (d : PyData) : Prop := ∀ c ∈ tlS d.shown, c < 0x110000
theorem Fc.ok {d : PyData} (h : Fc d) : okW d.shown := by
  show PyData.strOk _ = true
  unfold PyData.strOk
  exact Array.all_eq_true_iff_forall_mem.mpr fun c hc => decide_eq_true (h c (by unfold tlS; exact Array.mem_toList_iff.mpr hc))
theorem fc_join {ds : List PyData} (h : ∀ d ∈ ds, Fc d) : ∀ c ∈ tlS (Str.join ", " (PyData.shownAll ds)), c < 0x110000 := fun c hc => by
  cases ds with
  | nil => rw [PyData.shownAll_nil] at hc; cases hc
  | cons d r =>
    rw [tl_join] at hc
    rcases List.mem_append.mp hc with hc | hc
    · exact h d List.mem_cons_self c hc
    · obtain ⟨e, he, hc⟩ := List.mem_flatMap.mp hc
      rcases List.mem_cons.mp hc with rfl | hc
      · decide
      rcases List.mem_cons.mp hc with rfl | hc
      · decide
      · exact h e (List.mem_cons_of_mem _ he) c hc
theorem fc_list {ds : List PyData} (h : ∀ d ∈ ds, Fc d) : Fc (.list ds) := fun c hc => by
  rw [tl_list] at hc
  rcases List.mem_cons.mp hc with rfl | hc
  · decide
  rcases List.mem_append.mp hc with hc | hc
  · exact fc_join h c hc
  · rw [List.mem_singleton.mp hc]; decide
/-! ### values that are no kinds, no numbers, no moments -/
def PB (K : PySem.W.Frag) (hi : Int) : Hp → V → Prop := fun H y => K54F.BadR K H 0 hi y ∧ ShwF K H y
theorem badR_keep {K : PySem.W.Frag} {H H' : Hp} {lo hi : Int} {y : V} (h : K54F.BadR K H lo hi y) (s : Same H H') : K54F.BadR K H' lo hi y := h.elim .inl fun n => .inr (n.keep s)
theorem mono_b {K : PySem.W.Frag} {hi : Int} : Mono (PB K hi) := fun _ _ _ s h => ⟨badR_keep h.1 s, h.2.keep s⟩
theorem gv_run {H0 : Hp} {σ : L2.St} {te : TE} {v : V} {P : Hp → V → Prop} (mo : Mono P) (run : ∀ M H (Q : VK), Same H0 (hid M H) → Q v H → te σ H Q) (h : ∀ H, Same H0 H → P H v) : Gv H0 σ te P := ⟨mo, fun M H Q s _ q => run M H Q s (q v H (.refl _) (h _ s))⟩
section
variable {K : PySem.W.Frag} {H0 : Hp} {σ : L2.St}
theorem ni_ty {H : Hp} {y : V} {t : Value} {lo hi : Int} (ty : ∀ H', Same H H' → TyX K H' y t) (k : K54F.kit K t "int" false) : K54F.BadR K H lo hi y := .inr ⟨t, false, false, ty, k, (fun z => nomatch z), rfl⟩
theorem ni_bl {H : Hp} {b : Bool} {lo hi : Int} : K54F.BadR K H lo hi (.bl b) := .inr ⟨_, true, true, fun _ _ => .base (.bl b), kit_ty (by decide +kernel), fun _ => kit_ty (by decide +kernel), rfl⟩
theorem one_v {v : V} : GvA H0 σ (tCons (tC v) tNil) [fun _ x => x = v] := gva_cons (gv_c (mono_eq (y := v)) (fun _ _ => rfl)) gva_nil
theorem one_o {F : (V → (Hp → V → Prop) → Prop)} {vs : List V} {P : Hp → V → Prop} (h : Paired F vs [P]) : ∃ v, vs = [v] ∧ F v P := by
  cases h with | cons a r => cases r; exact ⟨_, rfl, a⟩
theorem bad_neg {H : Hp} {hi : Int} : PB K hi H (.int (-1)) := ⟨.inl ⟨-1, rfl, rfl⟩, _, okd (by decide +kernel), fun _ _ => .int (-1) (by decide +kernel)⟩
theorem bad_non {H : Hp} {hi : Int} : PB K hi H .non := ⟨ni_ty (fun _ _ => .base .non) (kit_ty (by decide +kernel)), _, okd (by decide +kernel), fun _ _ => .non⟩
theorem bad_tru {H : Hp} {hi : Int} : PB K hi H (.bl true) := ⟨ni_bl, _, okd (by decide +kernel), fun _ _ => .bl true⟩
theorem bad_0 {H : Hp} {hi : Int} : PB K hi H (.str "0") := ⟨ni_ty (fun _ _ => .base (.str _)) (kit_ty (by decide +kernel)), _, okd (by decide +kernel), fun _ _ => .str "0" (by decide +kernel)⟩
theorem gv_l0 {hi : Int} : Gv H0 σ (tLst (tCons (tC (.int 0)) tNil)) (Mo (PB K hi)) :=
  gv_lst (mono_mo (mono_b (K := K) (hi := hi))) one_v (by simp) fun H q vs s eq h => by
    obtain ⟨v, rfl, rfl⟩ := one_o h
    have eq := noT_at eq fun _ z => nomatch z
    exact ⟨ni_ty (fun H' s' => .base (.lst (s' _ _ eq))) (kit_ty (by decide +kernel)), _, okd (by decide +kernel), fun H' s' => .dat (.lst (SqL.of (s' _ _ eq)) (.cons (.int 0) .nil)) (by decide +kernel) (by decide +kernel) (by decide +kernel)⟩
theorem gv_neg {hi : Int} : Gv H0 σ (tUn (rU fun i => V.int (-i)) (tC (V.int 1))) (Mo (PB K hi)) :=
  gv_run (v := .int (-1)) (mono_mo (mono_b (K := K) (hi := hi))) (fun M H Q _ q => ⟨1, rfl, q⟩) fun H _ => bad_neg
end
/-- for x in [..]: the values by what holds of them -/
theorem for_gvl {K : PySem.W.Frag} {H0 : Hp} {σ : L2.St} {t : TA} {Ps : List (Hp → V → Prop)} {g : TG} {tb : TS} {D : Ends} (gv : GvA H0 σ t Ps) (few : Ps.length ≤ 1000)
    (k : ∀ l vs H1, Same H0 H1 → H1 l = some (.lst vs) → Paired (fun v P => P H1 v) vs Ps → ∃ Pv : Nat → L2.St → Hp → Prop, Pv 0 σ H1 ∧ (∀ i σ H, Pv i σ H → LamX.ExtN H1 H) ∧
      (∀ i x σ H, vs[i]? = some x → Pv i σ H → g x σ H fun σ2 H2 => tb { D with nx := Pv (i + 1), ct := Pv (i + 1), bk := D.nx } σ2 H2) ∧ ∀ σ H, Pv vs.length σ H → D.nx σ H) : tFor (iList K (tLst t)) g tb D σ H0 := by
  unfold tFor iList
  exact gvl_go gv few fun l vs H1 _ s1 el pv => ⟨l, rfl, ⟨_, SqL.of el⟩, by
    obtain ⟨Pv, h0, hx, hs, hd⟩ := k l vs H1 s1 el pv
    exact for_list (K := K) (a := l) (xs := vs) Pv h0 (fun i σ H _ h => SqL.of (hx i σ H h _ _ el (fun _ z => nomatch z))) hs hd⟩
/-! ### what is refused, told -/
open K54C (hid hid_in hid_get hid_same hid_mut Wd Ct CAt CtOk)
structure TstR (K : PySem.W.Frag) (mg : Str → Option Value) (CU CE CI CM CO CG : Addr) : Prop where
  bL : mg "LookupError" = none
  bO : mg "OverflowError" = none
  gG : mg "GapError" = some (.ref CG)
  xEU : PySem.W.exmOne K (.ref CE) (.ref CU) = some false
  xIU : PySem.W.exmOne K (.ref CI) (.ref CU) = some false
  xIE : PySem.W.exmOne K (.ref CI) (.ref CE) = some false
  xMU : PySem.W.exmOne K (.ref CM) (.ref CU) = some false
  xME : PySem.W.exmOne K (.ref CM) (.ref CE) = some false
  xMI : PySem.W.exmOne K (.ref CM) (.ref CI) = some false
  xOU : PySem.W.exmOne K (.ref CO) (.ref CU) = some false
  xOE : PySem.W.exmOne K (.ref CO) (.ref CE) = some false
  xOI : PySem.W.exmOne K (.ref CO) (.ref CI) = some false
  xOM : PySem.W.exmOne K (.ref CO) (.ref CM) = some false
  kU : PySem.W.kitOne K (.ref CU) (.type "LookupError") = some true
  kE : PySem.W.kitOne K (.ref CE) (.type "LookupError") = some true
  kIG : PySem.W.kitOne K (.ref CI) (.ref CG) = some true
  kMG : PySem.W.kitOne K (.ref CM) (.ref CG) = some true
  kOO : PySem.W.kitOne K (.ref CO) (.type "OverflowError") = some true
def rowF (a x : Str) (b : Bool) : List V := [.str a, .str x, .bl b]
def rowFD (a x : Str) (b : Bool) : PyData := .list [.str a, .str x, .bool b]
theorem rowF_dp {K : PySem.W.Frag} {H : Hp} {l : Addr} {a x : Str} {b : Bool} (h : H l = some (.lst (rowF a x b))) : Dp K H (.ref l) (rowFD a x b) := .lst (SqL.of h) (.cons (.str _) (.cons (.str x) (.cons (.bl _) .nil)))
theorem shp_row {a x : Str} {b : Bool} (oa : okW a) (ok : okW x) : SeqAt.shaped (rowFD a x b) = true := by
  unfold okW at ok oa
  have e1 : (rowFD a x b).canLay0 = true := by simp [rowFD, PyData.canLay0, PyData.canLayAll0, ok, oa]
  have e2 : (rowFD a x b).depth ≤ 64 := by first | (simp [rowFD, PyData.depth, PyData.depthAll]; done) | (show PyData.depthAll _ + 1 ≤ 64; simp [PyData.depthAll, PyData.depth]; done) | decide
  exact Bool.and_eq_true_iff.mpr ⟨e1, decide_eq_true e2⟩
theorem eqv_row {a x : Str} {b : Bool} : PyData.eqv (rowFD a x b) (rowFD a x b) = true := by simp [PyData.eqv, rowFD, PyData.eqvAll]
theorem ask_row {K : PySem.W.Frag} {H : Hp} {l m : Addr} {a x : Str} {b : Bool} {Q : VK} (oa : okW a) (ok : okW x) (h1 : H l = some (.lst (rowF a x b))) (h2 : H m = some (.lst (rowF a x b))) (q : Q (.bl false) H) : rNeD K (.ref l) (.ref m) H Q :=
  ⟨_, _, rowF_dp h1, rowF_dp h2, shp_row oa ok, shp_row oa ok, by rw [eqv_row]; exact q⟩
/-- good contents for an edition -/
def GdC (C : Addr) (H : Hp) (zs : List Str) (yc : V) : Prop := ∃ x c, yc = .ref x ∧ CAt (fun _ => True) C H x c ∧ CtOk c ∧ c.us.map (·.z) = zs
/-- what is refused: the value y, under the word a -/
def TeX (K : PySem.W.Frag) (C : Addr) (H : Hp) (es : List Ed) (cl : List Cl) (e0 : Ed) (way : Int) (yn yc ym y : V) (a : Str) : Prop :=
  ((way = 0 ∨ way = 1 ∨ way = 3 ∨ way = 4) ∧ ∃ z, missR cl (e0.c.us.map (·.z)) = some z ∧ y = .str z ∧ a = "name") ∨
  (missR cl (e0.c.us.map (·.z)) = none ∧ (((way = 0 ∨ way = 1 ∨ way = 2) ∧ K54F.BadR K H 0 (es.length - 1) yn ∧ y = yn ∧ a = "edition") ∨ ((way = 1 ∨ way = 2) ∧ yn = .int 0 ∧ y = .int 0 ∧ a = "edition") ∨
    ∃ (n : Nat) (e : Ed), yn = .int n ∧ es[n]? = some e ∧ ((way = 0 ∧ BadC K C H (e.c.us.map (·.z)) yc ∧ y = .non ∧ a = "contents") ∨ (way = 0 ∧ GdC C H (e.c.us.map (·.z)) yc ∧ BadM K H e.m ym ∧ y = ym ∧ a = "moment") ∨ (way = 2 ∧ 1 ≤ n ∧ BadM K H e.m ym ∧ y = ym ∧ a = "moment") ∨
      (way = 2 ∧ n = 6 ∧ (∃ m, ym = .int m ∧ e.m < m ∧ m ≤ LM) ∧ y = .int 7 ∧ a = "limit"))))
def TeG (C : Addr) (H : Hp) (es : List Ed) (ks : K54F.Ks) (cl : List Cl) (e0 : Ed) (way : Int) (yn yc ym : V) : Prop := missR cl (e0.c.us.map (·.z)) = none ∧ ∃ (n : Nat) (e : Ed) (m : Int), yn = .int n ∧ es[n]? = some e ∧ ym = .int m ∧ e.m < m ∧ m ≤ LM ∧
  ((way = 0 ∧ GdC C H (e.c.us.map (·.z)) yc ∧ ∀ x c, ∀ q ∈ cl, ClB ks (mos (cutE es n m x c)) q) ∨ (way = 2 ∧ 1 ≤ n ∧ n ≤ 5))
@[irreducible] def spTe (K : PySem.W.Frag) (PC C FC KC : Addr) : Sp := fun vs H Q _ => ∃ (p f : Addr) (es : List Ed) (ks : K54F.Ks) (cl : List Cl) (e0 : Ed) (way : Int) (yn yc ym : V), vs = [.int way, .ref p, .ref f, yn, yc, ym] ∧ PlAt PC C H p es ∧ FlAt FC KC H f ks cl ∧ es[0]? = some e0 ∧ cl.length ≤ 6 ∧ ks.length ≤ 5 ∧
  ((∃ a y tx, TeX K C H es cl e0 way yn yc ym y a ∧ (∀ H', Same H H' → Shw K H' y tx) ∧ ∀ l H', H l = none → Same H H' → H' l = some (.lst (rowF a tx true)) → Q (.ref l) H') ∨ (TeG C H es ks cl e0 way yn yc ym ∧ ∀ H', Same H H' → Q (.str "none") H'))
theorem use_te {K : PySem.W.Frag} {PC C FC KC p f : Addr} {way : Int} {yn yc ym y : V} {es : List Ed} {ks : K54F.Ks} {cl : List Cl} {e0 : Ed} {a tx : Str} {H : Hp} {Q : VK} {E : XK} (pl : PlAt PC C H p es) (fl : FlAt FC KC H f ks cl) (e00 : es[0]? = some e0) (c6 : cl.length ≤ 6) (k5 : ks.length ≤ 5) (r : TeX K C H es cl e0 way yn yc ym y a) (sh : ∀ H', Same H H' → Shw K H' y tx)
    (k : ∀ l H', H l = none → Same H H' → H' l = some (.lst (rowF a tx true)) → Q (.ref l) H') : spTe K PC C FC KC [.int way, .ref p, .ref f, yn, yc, ym] H Q E := by
  unfold spTe
  exact ⟨p, f, es, ks, cl, e0, way, yn, yc, ym, rfl, pl, fl, e00, c6, k5, .inl ⟨a, y, tx, r, sh, k⟩⟩
theorem use_teG {K : PySem.W.Frag} {PC C FC KC p f : Addr} {way : Int} {yn yc ym : V} {es : List Ed} {ks : K54F.Ks} {cl : List Cl} {e0 : Ed} {H : Hp} {Q : VK} {E : XK} (pl : PlAt PC C H p es) (fl : FlAt FC KC H f ks cl) (e00 : es[0]? = some e0) (c6 : cl.length ≤ 6) (k5 : ks.length ≤ 5) (r : TeG C H es ks cl e0 way yn yc ym)
    (k : ∀ H', Same H H' → Q (.str "none") H') : spTe K PC C FC KC [.int way, .ref p, .ref f, yn, yc, ym] H Q E := by
  unfold spTe
  exact ⟨p, f, es, ks, cl, e0, way, yn, yc, ym, rfl, pl, fl, e00, c6, k5, .inr ⟨r, k⟩⟩
theorem use_rex {K : PySem.W.Frag} {PC C FC KC CU CE CI CM p f : Addr} {yn yc ym : V} {es : List Ed} {ks : K54F.Ks} {cl : List Cl} {e0 : Ed} {H : Hp} {Q : VK} {E : XK} (pl : PlAt PC C H p es) (fl : FlAt FC KC H f ks cl) (e00 : es[0]? = some e0) (c6 : cl.length ≤ 6) (k5 : ks.length ≤ 5)
    (k : (∃ z, missR cl (e0.c.us.map (·.z)) = some z ∧ ErrAt E H CU "name" (.str z)) ∨ (missR cl (e0.c.us.map (·.z)) = none ∧ ((K54F.BadR K H 0 (es.length - 1) yn ∧ ErrAt E H CE "number" yn) ∨ ∃ (n : Nat) (e : Ed), yn = .int n ∧ es[n]? = some e ∧
    ((BadC K C H (e.c.us.map (·.z)) yc ∧ ErrAt E H CI "part" .non) ∨ ∃ (x : Addr) (c : Ct), yc = .ref x ∧ CAt (fun _ => True) C H x c ∧ CtOk c ∧ c.us.map (·.z) = e.c.us.map (·.z) ∧
      ((BadM K H e.m ym ∧ ErrAt E H CM "value" ym) ∨ ∃ m, ym = .int m ∧ e.m < m ∧ m ≤ LM ∧ (∀ q ∈ cl, ClB ks (mos (cutE es n m x c)) q) ∧ ∀ D H', Same H H' → Q (.ref D) H'))))) : spRenX K PC C FC KC CU CE CI CM [.ref p, .ref f, yn, yc, ym] H Q E := by
  unfold spRenX
  exact ⟨p, f, es, ks, cl, e0, yn, yc, ym, rfl, pl, fl, e00, c6, k5, k⟩
theorem use_unx {K : PySem.W.Frag} {PC C FC KC CU CE p f : Addr} {yn : V} {es : List Ed} {ks : K54F.Ks} {cl : List Cl} {e0 : Ed} {H : Hp} {Q : VK} {E : XK} (pl : PlAt PC C H p es) (fl : FlAt FC KC H f ks cl) (e00 : es[0]? = some e0)
    (k : (∃ z, missR cl (e0.c.us.map (·.z)) = some z ∧ ErrAt E H CU "name" (.str z)) ∨ (missR cl (e0.c.us.map (·.z)) = none ∧ ((K54F.BadR K H 0 (es.length - 1) yn ∧ ErrAt E H CE "number" yn) ∨ (yn = .int 0 ∧ ErrAt E H CE "number" (.int 0))))) : spUnX K PC C FC KC CU CE [.ref p, .ref f, yn] H Q E := by
  unfold spUnX
  exact ⟨p, f, es, ks, cl, e0, yn, rfl, pl, fl, e00, k⟩
theorem use_udx {K : PySem.W.Frag} {PC C CE CM CO p : Addr} {yn ym : V} {es : List Ed} {H : Hp} {Q : VK} {E : XK} (pl : PlAt PC C H p es)
    (k : (K54F.BadR K H 0 (es.length - 1) yn ∧ ErrAt E H CE "number" yn) ∨ (yn = .int 0 ∧ ErrAt E H CE "number" (.int 0)) ∨ ∃ (n : Nat) (e : Ed), yn = .int n ∧ 1 ≤ n ∧ es[n]? = some e ∧
    ((BadM K H e.m ym ∧ ErrAt E H CM "value" ym) ∨ ∃ m, ym = .int m ∧ e.m < m ∧ m ≤ LM ∧ ((n = 6 ∧ ErrAt E H CO "limit" (.int 7)) ∨ (n ≤ 5 ∧ ∀ x H', Same H H' → Q (.ref x) H')))) : spUdX K PC C CE CM CO [.ref p, yn, ym] H Q E := by
  unfold spUdX
  exact ⟨p, es, yn, ym, rfl, pl, k⟩
theorem use_nmx {PC C FC KC CU p f : Addr} {es : List Ed} {ks : K54F.Ks} {cl : List Cl} {e0 : Ed} {z : Str} {H : Hp} {Q : VK} {E : XK} (pl : PlAt PC C H p es) (fl : FlAt FC KC H f ks cl) (e00 : es[0]? = some e0) (ms : missR cl (e0.c.us.map (·.z)) = some z) (k : ErrAt E H CU "name" (.str z)) : spNmX PC C FC KC CU [.ref p, .ref f] H Q E := by
  unfold spNmX
  exact ⟨p, f, es, ks, cl, e0, z, rfl, pl, fl, e00, ms, k⟩
def tTry (tb : WX → TS) (w : Ends → WX) : TS := fun D σ H => tb (w D) D σ H
theorem ps_tryT {X : Cx} {Wout : WX} {body : List Stmt} {h₀ : ExceptHandler} {hds : List ExceptHandler} {w : Ends → WX} {pos : Pos} {tb : WX → TS} (hd : Hds X Wout (h₀ :: hds) w) (hs : X.stack = X.env :: X.outer) (fr : X.env.frame = some X.env.locals) (hN : X.N.Nodup) (tk : Takes X Wout)
    (hb : ∀ (W : WX) (pn : List (Addr × Obj)) (xe : Value → Shared → Prop), Takes (X.tr pn xe) W → PassesOwn (model X.prog X.w) X.A X.env xe → PSs (X.tr pn xe) body (tb W)) :
    PS X (.Try body (h₀ :: hds) [] [] pos) (tTry tb w) := ps_try hd hs fr hN tk hb
section
variable {P : Program} {w : World} {K : PySem.W.Frag} {mg : Str → Option Value} {base : Heap} {C PC CU CE CI CM CO CG FC KC : Addr} {st1 st2 st3 st4 st5 : Stmt}
abbrev s_law_told_error : Stmt := top 103
theorem sc_law_told_error : FnScope ["way", "plan", "fleet", "number", "contents", "moment", "e"] ["way", "plan", "fleet", "number", "contents", "moment"] (defScope s_law_told_error) := ⟨rfl, rfl, rfl, by decide +kernel, rfl, by decide +kernel, by decide +kernel⟩
theorem ok_te (D : DefK K mg "_law_told_error" s_law_told_error) (T : TxP K mg) (U : K54F.ExnQ K mg "UnknownName" CU "UnknownName.__init__" st1 "name") (I : K54F.ExnQ K mg "UnknownEdition" CE "UnknownEdition.__init__" st2 "number") (J2 : K54F.ExnQ K mg "InvalidContents" CI "InvalidContents.__init__" st3 "part") (M : K54F.ExnQ K mg "InvalidMoment" CM "InvalidMoment.__init__" st4 "value") (O : K54F.ExnQ K mg "LimitExceeded" CO "LimitExceeded.__init__" st5 "limit") (W9 : TstR K mg CU CE CI CM CO CG)
    (G_renewed_faults : Cal P w K mg base (L2.CX P w) 13 "renewed_faults" (spRenX K PC C FC KC CU CE CI CM)) (G_undo_faults : Cal P w K mg base (L2.CX P w) 13 "undo_faults" (spUnX K PC C FC KC CU CE)) (G_undone : Cal P w K mg base (L2.CX P w) 10 "undone" (spUdX K PC C CE CM CO)) (G_first_stuck : Cal P w K mg base (L2.CX P w) 14 "first_stuck" (spNmX PC C FC KC CU)) (G_is_undoable : Cal P w K mg base (L2.CX P w) 15 "is_undoable" (spNmX PC C FC KC CU)) : CalG P w K mg base CX0 16 "_law_told_error" (spTe K PC C FC KC) := by
  refine D.calG sc_law_told_error (fun _ _ _ _ _ _ us hl => match us, hl with | [_, _, _, _, _, _], _ => rfl) (fun vs H Q E h => ?_) fun f0 cdv A outer s H vs Q E g hr h => ?_
  · unfold spTe at h; obtain ⟨p, f, es, ks, cl, e0, way, yn, yc, ym, rfl, _⟩ := h; rfl
  · unfold spTe at h; obtain ⟨p, f, es, ks, cl, e0, way, yn, yc, ym, rfl, pl, fl, e00, c6, k5, h⟩ := h
    have hu : (A.deeper (envOfC "_law_told_error" (defScope s_law_told_error) s.heap.objs.size f0 cdv)).units + 64 < cLine := hr.units
    have bL := W9.bL
    have bO := W9.bO
    have hrep : ∀ (a : Addr) (oe : Obj) (pn : List (Addr × Obj)), CallR ((cxOf CX0 P w K mg base ["way", "plan", "fleet", "number", "contents", "moment", "e"] "_law_told_error" (defScope s_law_told_error) f0 cdv A outer s H E).nox.suite a ((a, oe) :: pn)) (.builtin "repr") (rShw K) := fun a oe pn => call_shw g hu
    refine ⟨_, (pss_cons (ps_tryT (.named (i := 6) rfl rfl ⟨rfl, by decide, .inl U.mg_⟩ (fun a oe cls d pn hz hf => pss_one (ps_ret (pe_lst (pa_cons pe_str (pa_cons (pe_callB (hrep a oe pn) (by rfl) T.b_repr (by decide +kernel) (pa_cons (pe_xf U.xk.xf U.no hz hf (pv 6)) pa_nil)) (pa_cons (pe_callB (call_isX U.xk hz hf) (by rfl) T.b_isinstance (by decide +kernel) (pa_cons (pv 6) (pa_cons (pe_ty (n := "LookupError") (by rfl) bL (by decide +kernel)) pa_nil))) pa_nil)))))) (.named (i := 6) rfl rfl ⟨rfl, by decide, .inl I.mg_⟩ (fun a oe cls d pn hz hf => pss_one (ps_ret (pe_lst (pa_cons pe_str (pa_cons (pe_callB (hrep a oe pn) (by rfl) T.b_repr (by decide +kernel) (pa_cons (pe_xf I.xk.xf I.no hz hf (pv 6)) pa_nil)) (pa_cons (pe_callB (call_isX I.xk hz hf) (by rfl) T.b_isinstance (by decide +kernel) (pa_cons (pv 6) (pa_cons (pe_ty (n := "LookupError") (by rfl) bL (by decide +kernel)) pa_nil))) pa_nil)))))) (.named (i := 6) rfl rfl ⟨rfl, by decide, .inl J2.mg_⟩ (fun a oe cls d pn hz hf => pss_one (ps_ret (pe_lst (pa_cons pe_str (pa_cons (pe_callB (hrep a oe pn) (by rfl) T.b_repr (by decide +kernel) (pa_cons (pe_xf J2.xk.xf J2.no hz hf (pv 6)) pa_nil)) (pa_cons (pe_callB (call_isX J2.xk hz hf) (by rfl) T.b_isinstance (by decide +kernel) (pa_cons (pv 6) (pa_cons (pe_glob (v := .ref CG) rfl W9.gG rfl) pa_nil))) pa_nil)))))) (.named (i := 6) rfl rfl ⟨rfl, by decide, .inl M.mg_⟩ (fun a oe cls d pn hz hf => pss_one (ps_ret (pe_lst (pa_cons pe_str (pa_cons (pe_callB (hrep a oe pn) (by rfl) T.b_repr (by decide +kernel) (pa_cons (pe_xf M.xk.xf M.no hz hf (pv 6)) pa_nil)) (pa_cons (pe_callB (call_isX M.xk hz hf) (by rfl) T.b_isinstance (by decide +kernel) (pa_cons (pv 6) (pa_cons (pe_glob (v := .ref CG) rfl W9.gG rfl) pa_nil))) pa_nil)))))) (.named (i := 6) rfl rfl ⟨rfl, by decide, .inl O.mg_⟩ (fun a oe cls d pn hz hf => pss_one (ps_ret (pe_lst (pa_cons pe_str (pa_cons (pe_callB (hrep a oe pn) (by rfl) T.b_repr (by decide +kernel) (pa_cons (pe_xf O.xk.xf O.no hz hf (pv 6)) pa_nil)) (pa_cons (pe_callB (call_isX O.xk hz hf) (by rfl) T.b_isinstance (by decide +kernel) (pa_cons (pv 6) (pa_cons (pe_ty (n := "OverflowError") (by rfl) bO (by decide +kernel)) pa_nil))) pa_nil)))))) .cut))))) rfl rfl sc_law_told_error.nd takes0 (fun W pn xe tk _ => (pss_one (ps_if (pt_cmpR op_eq (pv 0) pe_int (nomark _)) (pss_one (ps_expr (pe_cS G_renewed_faults tk hr (by decide) rfl (pa_cons (pv 1) (pa_cons (pv 2) (pa_cons (pv 3) (pa_cons (pv 4) (pa_cons (pv 5) pa_nil)))))))) (pss_one (ps_if (pt_cmpR op_eq (pv 0) pe_int (nomark _)) (pss_one (ps_expr (pe_cS G_undo_faults tk hr (by decide) rfl (pa_cons (pv 1) (pa_cons (pv 2) (pa_cons (pv 3) pa_nil)))))) (pss_one (ps_if (pt_cmpR op_eq (pv 0) pe_int (nomark _)) (pss_one (ps_expr (pe_cS G_undone tk hr (by decide) rfl (pa_cons (pv 1) (pa_cons (pv 3) (pa_cons (pv 5) pa_nil)))))) (pss_one (ps_if (pt_cmpR op_eq (pv 0) pe_int (nomark _)) (pss_one (ps_expr (pe_cS G_first_stuck tk hr (by decide) rfl (pa_cons (pv 1) (pa_cons (pv 2) pa_nil))))) (pss_one (ps_expr (pe_cS G_is_undoable tk hr (by decide) rfl (pa_cons (pv 1) (pa_cons (pv 2) pa_nil)))))))))))))))
      (pss_one (ps_ret pe_str))), ?_⟩
    refine ⟨_, rfl, rfl, _, rfl, ?_⟩
    rcases h with ⟨a, y, tx, r, sh, k⟩ | ⟨⟨mr, n, e, m, rfl, he, rfl, lt, mL, r⟩, k⟩
    · rcases r with ⟨wy, z, ms, rfl, rfl⟩ | ⟨mr, ⟨wy, bad, rfl, rfl⟩ | ⟨wy, rfl, rfl, rfl⟩ | ⟨n, e, rfl, he, ⟨rfl, bad, rfl, rfl⟩ | ⟨rfl, ⟨x, c, rfl, at_, ok, cr⟩, bad, rfl, rfl⟩ | ⟨rfl, n1, bad, rfl, rfl⟩ | ⟨rfl, n6, ⟨m, rfl, lt, mL⟩, rfl, rfl⟩⟩⟩
      · rcases wy with rfl | rfl | rfl | rfl
        · exact iteTe rfl ⟨_, rfl, _, rfl, _, rfl, _, rfl, _, rfl, use_rex pl fl e00 c6 k5 (.inl ⟨z, ms, fun d' H2 nd' s2 ed => ⟨true, U.te, fun _ a na => ⟨_, rfl, rfl, rfl, d', _, _, rfl, ed, rfl, _, tx, rfl, sh _ s2, _, rfl, .ty "LookupError", .type "LookupError", true, d', _, rfl, rfl, rfl, ed, fun _ z => z, W9.kU, by show 3 ≤ sizeLine; decide, fun l nl => k l _ (s2.free nl) (same_new' s2 nl) upd_same⟩, fun z => nomatch z⟩⟩)⟩
        · exact iteFe rfl ⟨_, rfl, rfl, _, rfl, iteTe rfl ⟨_, rfl, _, rfl, _, rfl, use_unx pl fl e00 (.inl ⟨z, ms, fun d' H2 nd' s2 ed => ⟨true, U.te, fun _ a na => ⟨_, rfl, rfl, rfl, d', _, _, rfl, ed, rfl, _, tx, rfl, sh _ s2, _, rfl, .ty "LookupError", .type "LookupError", true, d', _, rfl, rfl, rfl, ed, fun _ z => z, W9.kU, by show 3 ≤ sizeLine; decide, fun l nl => k l _ (s2.free nl) (same_new' s2 nl) upd_same⟩, fun z => nomatch z⟩⟩)⟩⟩
        · exact iteFe rfl ⟨_, rfl, rfl, _, rfl, iteFe rfl ⟨_, rfl, rfl, _, rfl, iteFe rfl ⟨_, rfl, rfl, _, rfl, iteTe rfl ⟨_, rfl, _, rfl, use_nmx pl fl e00 ms (fun d' H2 nd' s2 ed => ⟨true, U.te, fun _ a na => ⟨_, rfl, rfl, rfl, d', _, _, rfl, ed, rfl, _, tx, rfl, sh _ s2, _, rfl, .ty "LookupError", .type "LookupError", true, d', _, rfl, rfl, rfl, ed, fun _ z => z, W9.kU, by show 3 ≤ sizeLine; decide, fun l nl => k l _ (s2.free nl) (same_new' s2 nl) upd_same⟩, fun z => nomatch z⟩)⟩⟩⟩⟩
        · exact iteFe rfl ⟨_, rfl, rfl, _, rfl, iteFe rfl ⟨_, rfl, rfl, _, rfl, iteFe rfl ⟨_, rfl, rfl, _, rfl, iteFe rfl ⟨_, rfl, _, rfl, use_nmx pl fl e00 ms (fun d' H2 nd' s2 ed => ⟨true, U.te, fun _ a na => ⟨_, rfl, rfl, rfl, d', _, _, rfl, ed, rfl, _, tx, rfl, sh _ s2, _, rfl, .ty "LookupError", .type "LookupError", true, d', _, rfl, rfl, rfl, ed, fun _ z => z, W9.kU, by show 3 ≤ sizeLine; decide, fun l nl => k l _ (s2.free nl) (same_new' s2 nl) upd_same⟩, fun z => nomatch z⟩)⟩⟩⟩⟩
      · rcases wy with rfl | rfl | rfl
        · exact iteTe rfl ⟨_, rfl, _, rfl, _, rfl, _, rfl, _, rfl, use_rex pl fl e00 c6 k5 (.inr ⟨mr, .inl ⟨bad, fun d' H2 nd' s2 ed => ⟨false, W9.xEU, (fun z => nomatch z), fun _ => ⟨true, I.te, fun _ a na => ⟨_, rfl, rfl, rfl, d', _, _, rfl, ed, rfl, _, tx, rfl, sh _ s2, _, rfl, .ty "LookupError", .type "LookupError", true, d', _, rfl, rfl, rfl, ed, fun _ z => z, W9.kE, by show 3 ≤ sizeLine; decide, fun l nl => k l _ (s2.free nl) (same_new' s2 nl) upd_same⟩, fun z => nomatch z⟩⟩⟩⟩)⟩
        · exact iteFe rfl ⟨_, rfl, rfl, _, rfl, iteTe rfl ⟨_, rfl, _, rfl, _, rfl, use_unx pl fl e00 (.inr ⟨mr, .inl ⟨bad, fun d' H2 nd' s2 ed => ⟨false, W9.xEU, (fun z => nomatch z), fun _ => ⟨true, I.te, fun _ a na => ⟨_, rfl, rfl, rfl, d', _, _, rfl, ed, rfl, _, tx, rfl, sh _ s2, _, rfl, .ty "LookupError", .type "LookupError", true, d', _, rfl, rfl, rfl, ed, fun _ z => z, W9.kE, by show 3 ≤ sizeLine; decide, fun l nl => k l _ (s2.free nl) (same_new' s2 nl) upd_same⟩, fun z => nomatch z⟩⟩⟩⟩)⟩⟩
        · exact iteFe rfl ⟨_, rfl, rfl, _, rfl, iteFe rfl ⟨_, rfl, rfl, _, rfl, iteTe rfl ⟨_, rfl, _, rfl, _, rfl, use_udx pl (.inl ⟨bad, fun d' H2 nd' s2 ed => ⟨false, W9.xEU, (fun z => nomatch z), fun _ => ⟨true, I.te, fun _ a na => ⟨_, rfl, rfl, rfl, d', _, _, rfl, ed, rfl, _, tx, rfl, sh _ s2, _, rfl, .ty "LookupError", .type "LookupError", true, d', _, rfl, rfl, rfl, ed, fun _ z => z, W9.kE, by show 3 ≤ sizeLine; decide, fun l nl => k l _ (s2.free nl) (same_new' s2 nl) upd_same⟩, fun z => nomatch z⟩⟩⟩)⟩⟩⟩
      · rcases wy with rfl | rfl
        · exact iteFe rfl ⟨_, rfl, rfl, _, rfl, iteTe rfl ⟨_, rfl, _, rfl, _, rfl, use_unx pl fl e00 (.inr ⟨mr, .inr ⟨rfl, fun d' H2 nd' s2 ed => ⟨false, W9.xEU, (fun z => nomatch z), fun _ => ⟨true, I.te, fun _ a na => ⟨_, rfl, rfl, rfl, d', _, _, rfl, ed, rfl, _, tx, rfl, sh _ s2, _, rfl, .ty "LookupError", .type "LookupError", true, d', _, rfl, rfl, rfl, ed, fun _ z => z, W9.kE, by show 3 ≤ sizeLine; decide, fun l nl => k l _ (s2.free nl) (same_new' s2 nl) upd_same⟩, fun z => nomatch z⟩⟩⟩⟩)⟩⟩
        · exact iteFe rfl ⟨_, rfl, rfl, _, rfl, iteFe rfl ⟨_, rfl, rfl, _, rfl, iteTe rfl ⟨_, rfl, _, rfl, _, rfl, use_udx pl (.inr (.inl ⟨rfl, fun d' H2 nd' s2 ed => ⟨false, W9.xEU, (fun z => nomatch z), fun _ => ⟨true, I.te, fun _ a na => ⟨_, rfl, rfl, rfl, d', _, _, rfl, ed, rfl, _, tx, rfl, sh _ s2, _, rfl, .ty "LookupError", .type "LookupError", true, d', _, rfl, rfl, rfl, ed, fun _ z => z, W9.kE, by show 3 ≤ sizeLine; decide, fun l nl => k l _ (s2.free nl) (same_new' s2 nl) upd_same⟩, fun z => nomatch z⟩⟩⟩))⟩⟩⟩
      · exact iteTe rfl ⟨_, rfl, _, rfl, _, rfl, _, rfl, _, rfl, use_rex pl fl e00 c6 k5 (.inr ⟨mr, .inr ⟨n, e, rfl, he, .inl ⟨bad, fun d' H2 nd' s2 ed => ⟨false, W9.xIU, (fun z => nomatch z), fun _ => ⟨false, W9.xIE, (fun z => nomatch z), fun _ => ⟨true, J2.te, fun _ a na => ⟨_, rfl, rfl, rfl, d', _, _, rfl, ed, rfl, _, tx, rfl, sh _ s2, _, rfl, .ref CG, .ref CG, true, d', _, rfl, rfl, rfl, ed, fun _ z => z, W9.kIG, by show 3 ≤ sizeLine; decide, fun l nl => k l _ (s2.free nl) (same_new' s2 nl) upd_same⟩, fun z => nomatch z⟩⟩⟩⟩⟩⟩)⟩
      · exact iteTe rfl ⟨_, rfl, _, rfl, _, rfl, _, rfl, _, rfl, use_rex pl fl e00 c6 k5 (.inr ⟨mr, .inr ⟨n, e, rfl, he, .inr ⟨x, c, rfl, at_, ok, cr, .inl ⟨bad, fun d' H2 nd' s2 ed => ⟨false, W9.xMU, (fun z => nomatch z), fun _ => ⟨false, W9.xME, (fun z => nomatch z), fun _ => ⟨false, W9.xMI, (fun z => nomatch z), fun _ => ⟨true, M.te, fun _ a na => ⟨_, rfl, rfl, rfl, d', _, _, rfl, ed, rfl, _, tx, rfl, sh _ s2, _, rfl, .ref CG, .ref CG, true, d', _, rfl, rfl, rfl, ed, fun _ z => z, W9.kMG, by show 3 ≤ sizeLine; decide, fun l nl => k l _ (s2.free nl) (same_new' s2 nl) upd_same⟩, fun z => nomatch z⟩⟩⟩⟩⟩⟩⟩⟩)⟩
      · exact iteFe rfl ⟨_, rfl, rfl, _, rfl, iteFe rfl ⟨_, rfl, rfl, _, rfl, iteTe rfl ⟨_, rfl, _, rfl, _, rfl, use_udx pl (.inr (.inr ⟨n, e, rfl, n1, he, .inl ⟨bad, fun d' H2 nd' s2 ed => ⟨false, W9.xMU, (fun z => nomatch z), fun _ => ⟨false, W9.xME, (fun z => nomatch z), fun _ => ⟨false, W9.xMI, (fun z => nomatch z), fun _ => ⟨true, M.te, fun _ a na => ⟨_, rfl, rfl, rfl, d', _, _, rfl, ed, rfl, _, tx, rfl, sh _ s2, _, rfl, .ref CG, .ref CG, true, d', _, rfl, rfl, rfl, ed, fun _ z => z, W9.kMG, by show 3 ≤ sizeLine; decide, fun l nl => k l _ (s2.free nl) (same_new' s2 nl) upd_same⟩, fun z => nomatch z⟩⟩⟩⟩⟩⟩))⟩⟩⟩
      · exact iteFe rfl ⟨_, rfl, rfl, _, rfl, iteFe rfl ⟨_, rfl, rfl, _, rfl, iteTe rfl ⟨_, rfl, _, rfl, _, rfl, use_udx pl (.inr (.inr ⟨n, e, rfl, by omega, he, .inr ⟨m, rfl, lt, mL, .inl ⟨n6, fun d' H2 nd' s2 ed => ⟨false, W9.xOU, (fun z => nomatch z), fun _ => ⟨false, W9.xOE, (fun z => nomatch z), fun _ => ⟨false, W9.xOI, (fun z => nomatch z), fun _ => ⟨false, W9.xOM, (fun z => nomatch z), fun _ => ⟨true, O.te, fun _ a na => ⟨_, rfl, rfl, rfl, d', _, _, rfl, ed, rfl, _, tx, rfl, sh _ s2, _, rfl, .ty "OverflowError", .type "OverflowError", true, d', _, rfl, rfl, rfl, ed, fun _ z => z, W9.kOO, by show 3 ≤ sizeLine; decide, fun l nl => k l _ (s2.free nl) (same_new' s2 nl) upd_same⟩, fun z => nomatch z⟩⟩⟩⟩⟩⟩⟩⟩))⟩⟩⟩
    · rcases r with ⟨rfl, ⟨x, c, rfl, at_, ok, cr⟩, cb⟩ | ⟨rfl, n1, n5⟩
      · exact iteTe rfl ⟨_, rfl, _, rfl, _, rfl, _, rfl, _, rfl, use_rex pl fl e00 c6 k5 ((.inr ⟨mr, .inr ⟨n, e, rfl, he, .inr ⟨x, c, rfl, at_, ok, cr, .inr ⟨m, rfl, lt, mL, cb x c, fun D H' s' => k H' s'⟩⟩⟩⟩))⟩
      · exact iteFe rfl ⟨_, rfl, rfl, _, rfl, iteFe rfl ⟨_, rfl, rfl, _, rfl, iteTe rfl ⟨_, rfl, _, rfl, _, rfl, use_udx pl ((.inr (.inr ⟨n, e, rfl, n1, he, .inr ⟨m, rfl, lt, mL, .inr ⟨n5, fun x H' s' => k H' s'⟩⟩⟩)))⟩⟩⟩
end
end K54
namespace K54
open PySem PySem.Spec PyProof.Rows L2 Jg
local macro_rules | `(tactic| walk_at "rd1") => `(tactic| (first
  | refine ⟨_, rfl, ?_⟩
  | refine ⟨_, _, rfl, rfl, ?_⟩
  | refine ⟨_, _, rfl, ?_⟩
  | refine ⟨rfl, ?_⟩
  | (refine ⟨show (0 : Int) < _ by omega, ?_⟩)
  | (refine ⟨Or.inl ⟨by omega, by omega⟩, ?_⟩)
  | (refine ⟨Or.inr ⟨by omega, by omega⟩, ?_⟩)
  | (refine ⟨(⟨by decide, by decide, by decide⟩ : CPow _ _), ?_⟩)
  | refine Or.inl ⟨_, rfl, ?_⟩
  | refine Or.inr ⟨_, rfl, ?_⟩
  | fail "rd"))
local macro_rules | `(tactic| walk_at "rd") => `(tactic| repeat' walk_at "rd1")
/-! ### wrong numbers, wrong contents and wrong moments -/
open K54C (hid hid_in hid_get hid_same hid_mut Wd WdL Ct CAt CtOk RowOk rowB dictOf Right Made CpAt cp_new cp_merge cpKv paired_cp seqO seqO_is seqO_ty kl_of wordB keysB SameB)
theorem tl_negn (n : Nat) (h : 0 < n) : tlS (Str.ofString (toString (-((n : Nat) : Int)))) = 45 :: TL.numL n := by
  obtain ⟨m, rfl⟩ : ∃ m, n = m + 1 := ⟨n - 1, by omega⟩
  show TL.tl _ = _
  rw [show (-((m + 1 : Nat) : Int)) = Int.negSucc m from rfl, TL.tl_ofString]
  have e : toString (Int.negSucc m) = "-" ++ toString (((m + 1 : Nat) : Int)) := rfl
  rw [e, String.toList_append, List.map_append, ← TL.tl_ofString (toString (((m + 1 : Nat) : Int))), TL.tl_num]
  rfl
theorem fc_int (i : Int) : Fc (.int i) := by
  intro c hc
  have dg : ∀ n, ∀ c ∈ TL.numL n, c < 0x110000 := fun n c hc => by have h := TL.numL_digits n c hc; omega
  have hc : c ∈ tlS (Str.ofString (toString i)) := hc
  by_cases h : 0 ≤ i
  · obtain ⟨n, rfl⟩ : ∃ n : Nat, i = n := ⟨i.toNat, by omega⟩
    have e : tlS (Str.ofString (toString ((n : Nat) : Int))) = TL.numL n := TL.tl_num n
    rw [e] at hc
    exact dg n c hc
  · obtain ⟨n, hn, rfl⟩ : ∃ n : Nat, 0 < n ∧ i = -(n : Int) := ⟨(-i).toNat, by omega, by omega⟩
    rw [tl_negn n hn] at hc
    rcases List.mem_cons.mp hc with rfl | hc
    · decide
    · exact dg n c hc
theorem ok_numI (i : Int) : okW (Str.ofString (toString i)) := (fc_int i).ok
theorem sb_intL {i : Int} (h : i.natAbs < 10 ^ 41) : Jg.Sb (.int i) 0 0 := by
  have z := int_text_length_le10 (k := 41) (by decide) h
  have e : (PyData.int i).shown.length ≤ 100 := by
    show (Str.ofString (toString i)).length ≤ 100
    rw [PySem.ofString_length]
    omega
  refine ⟨?_, by simpa only [PyData.leavesShort, decide_eq_true_eq] using e, Nat.le_refl _, by simp [PyData.depth]⟩
  have l : i.natAbs.log2 < 1920 := Nat.lt_of_lt_of_le (PySem.Flt.log2_lt_of (k := 200) (by decide) (Nat.lt_of_lt_of_le h (by decide +kernel))) (by decide)
  simp [PyData.showable, l]
theorem shw_numI {K : PySem.W.Frag} {H : Hp} {i : Int} (h0 : -1 ≤ i) (h : i ≤ 10 ^ 40 + 1) : ShwF K H (.int i) := by
  refine ⟨_, ok_numI i, fun _ _ => .int i ?_⟩
  have b : i.natAbs < 2 ^ 200 := by
    have : (10 : Int) ^ 40 + 1 < 2 ^ 200 := by decide +kernel
    omega
  by_cases z : i.natAbs = 0
  · rw [z]; decide
  · exact Nat.lt_of_lt_of_le ((Nat.log2_lt z).mpr b) (by decide)
section
variable {K : PySem.W.Frag} {H0 : Hp} {σ : L2.St}
theorem valsD {n : Nat} (e : σ[2]? = some (some (.int n))) (n1 : 1 ≤ n) (n7 : n ≤ 7) : GvA H0 σ (tCons (tUn (rU fun i => V.int (-i)) (tC (V.int 1))) (tCons (tVar 2) (tCons (tC V.non) (tCons (tC (V.bl true)) (tCons (tC (V.str "0")) (tCons (tLst (tCons (tC (V.int 0)) tNil)) (tCons (tTup tNil) (tCons (tOp (rI CPow fun i j => V.int (i ^ j.toNat)) (tC (V.int 10)) (tC (V.int 30))) tNil))))))))
    (List.replicate 8 (Mo (PB K (n - 1)))) := by
  have m := mono_mo (mono_b (K := K) (hi := (n : Int) - 1))
  refine gva_cons gv_neg (gva_cons (gv_v e m fun H _ => ⟨.inl ⟨_, rfl, ?_⟩, ?_⟩) (gva_cons (gv_c m fun _ _ => bad_non) (gva_cons (gv_c m fun _ _ => bad_tru) (gva_cons (gv_c m fun _ _ => bad_0) (gva_cons gv_l0 (gva_cons (gv_tup m gva_nil (by simp) fun H q vs s eq h => ?_) (gva_cons (gv_run (v := .int (10 ^ 30)) m (fun M H Q _ q => ⟨_, _, rfl, rfl, ⟨by decide, by decide, by decide⟩, ?_⟩) fun H _ => ⟨.inl ⟨_, rfl, ?_⟩, ?_⟩) gva_nil)))))))
  · rw [decide_eq_true (show (0 : Int) ≤ n by omega), decide_eq_false (show ¬ (n : Int) ≤ (n : Int) - 1 by omega)]; rfl
  · have b40 : (7 : Int) ≤ 10 ^ 40 := by decide +kernel
    exact shw_numI (by omega) (by omega)
  · cases h
    have eq := noT_at eq fun _ z => nomatch z
    exact ⟨ni_ty (fun H' s' => .base (.tup (s' _ _ eq))) (kit_ty (by decide +kernel)), _, okd (by decide +kernel), fun H' s' => .dat (.tup (SqT.of (s' _ _ eq)) .nil) (by decide +kernel) (by decide +kernel) (by decide +kernel)⟩
  · have p30 : (10 : Int) ^ (30 : Int).toNat = 10 ^ 30 := by decide +kernel
    show Q (V.int (10 ^ (30 : Int).toNat)) H
    rw [p30]; exact q
  · have b30 : (7 : Int) ≤ 10 ^ 30 := by decide +kernel
    rw [decide_eq_false (show ¬ (10 ^ 30 : Int) ≤ (n : Int) - 1 by omega), Bool.and_false]
  · exact ⟨_, okd (by decide +kernel), fun _ _ => .int (10 ^ 30) (by decide +kernel)⟩
def PM (K : PySem.W.Frag) (m : Int) : Hp → V → Prop := fun H y => BadM K H m y ∧ ShwF K H y
theorem mono_m {m : Int} : Mono (PM K m) := fun _ _ _ s h => ⟨h.1.keep s, h.2.keep s⟩
theorem valsM {m : Int} (e4 : σ[4]? = some (some (.int m))) (b : 0 ≤ m ∧ m + 1 ≤ 10 ^ 40) : GvA H0 σ (tCons (tVar 4) (tCons (tOp (rI0 fun i j => V.int (i - j)) (tVar 4) (tC (V.int 1))) (tCons (tC (V.int 0)) (tCons (tUn (rU fun i => V.int (-i)) (tC (V.int 1))) (tCons (tOp (rI0 fun i j => V.int (i + j)) (tOp (rI CPow fun i j => V.int (i ^ j.toNat)) (tC (V.int 10)) (tC (V.int 40))) (tC (V.int 1))) (tCons (tC V.non) (tCons (tC (V.bl true)) (tCons (tC (V.str "9")) (tCons (tLst (tCons (tOp (rI0 fun i j => V.int (i + j)) (tVar 4) (tC (V.int 1))) tNil)) tNil))))))))) (List.replicate 9 (Mo (PM K m))) := by
  have mm := mono_mo (mono_m (K := K) (m := m))
  have bL : LM = 10 ^ 40 := by decide +kernel
  refine gva_cons (gv_v e4 mm fun H _ => ⟨.inr ⟨m, rfl, b.1, by rw [bL]; omega, by omega⟩, shw_numI (by omega) (by omega)⟩) ?_
  refine gva_cons (gv_run (v := .int (m - 1)) mm (fun M H Q s q => ⟨_, e4, _, _, rfl, rfl, q⟩) fun H _ => ⟨?_, shw_numI (by omega) (by omega)⟩) ?_
  · by_cases c : m = 0
    · subst c; exact .inl (.inl ⟨-1, rfl, rfl⟩)
    · exact .inr ⟨m - 1, rfl, by omega, by rw [bL]; omega, by omega⟩
  refine gva_cons (gv_c mm fun H _ => ⟨.inr ⟨0, rfl, by decide, by decide +kernel, b.1⟩, shw_numI (by decide) (by decide +kernel)⟩) ?_
  refine gva_cons (gv_run (v := .int (-1)) mm (fun M H Q s q => ⟨1, rfl, q⟩) fun H _ => ⟨.inl (.inl ⟨-1, rfl, rfl⟩), shw_numI (by decide) (by decide +kernel)⟩) ?_
  refine gva_cons (gv_run (v := .int (10 ^ 40 + 1)) mm (fun M H Q _ q => ⟨_, _, rfl, rfl, ⟨by decide, by decide, by decide⟩, _, _, rfl, rfl, ?_⟩) fun H _ => ⟨.inl (.inl ⟨_, rfl, by decide +kernel⟩), _, okd (by decide +kernel), fun _ _ => .int (10 ^ 40 + 1) (by decide +kernel)⟩) ?_
  · have p40 : (10 : Int) ^ (40 : Int).toNat = 10 ^ 40 := by decide +kernel
    show Q (V.int (10 ^ (40 : Int).toNat + 1)) H
    rw [p40]; exact q
  refine gva_cons (gv_c mm fun H _ => ⟨.inl (bad_non (K := K) (H := noT H) (hi := LM)).1, (bad_non (K := K) (H := noT H) (hi := 0)).2⟩) ?_
  refine gva_cons (gv_c mm fun H _ => ⟨.inl (bad_tru (K := K) (H := noT H) (hi := LM)).1, (bad_tru (K := K) (H := noT H) (hi := 0)).2⟩) ?_
  refine gva_cons (gv_c mm fun H _ => ⟨.inl (ni_ty (fun _ _ => .base (.str _)) (kit_ty (by decide +kernel))), _, okd (by decide +kernel), fun _ _ => .str "9" (by decide +kernel)⟩) ?_
  refine gva_cons (gv_lst mm (gva_cons (gv_run (v := .int (m + 1)) (mono_eq (y := .int (m + 1))) (fun M H Q s q => ⟨_, e4, _, _, rfl, rfl, q⟩) fun H _ => rfl) gva_nil) (by simp) fun H q vs s eq h => ?_) gva_nil
  obtain ⟨v, rfl, rfl⟩ := one_o h
  have eq := noT_at eq fun _ z => nomatch z
  have b41 : (10 : Int) ^ 40 < 10 ^ 41 := by decide +kernel
  have sh := ((Jg.SbAll.cons (sb_intL (i := m + 1) (by omega)) (Jg.SbAll.nil (n := 0))).list).ask (by decide) (by decide)
  exact ⟨.inl (ni_ty (fun H' s' => .base (.lst (s' _ _ eq))) (kit_ty (by decide +kernel))), _, (fc_list (ds := [.int (m + 1)]) fun d hd => by rw [List.mem_singleton.mp hd]; exact fc_int _).ok, fun H' s' => .dat (.lst (SqL.of (s' _ _ eq)) (.cons (.int _) .nil)) sh.1 sh.2.1 sh.2.2⟩
end
def spNum (PC C FC KC : Addr) : Sp := fun vs H Q _ => ∃ (p f : Addr) (n : Nat) (es : List Ed) (ks : K54F.Ks) (cl : List Cl) (e0 : Ed), vs = [.ref p, .ref f, .int n] ∧ PlAt PC C H p es ∧ FlAt FC KC H f ks cl ∧ cl.length ≤ 6 ∧ ks.length ≤ 5 ∧ es[0]? = some e0 ∧ missR cl (e0.c.us.map (·.z)) = none ∧ es.length = n ∧ ∀ H', Same H H' → Q (.bl true) H'
/-- everything of the rows is plain -/
structure PlR (H : Hp) (r : K54C.Row) : Prop where
  tp : H r.t = some (.tup [.ref r.a, .str r.u])
  ls : H r.a = some (.lst [])
  b_ : r.b = true
  ks : r.ks = []
  zl : r.z.length ≤ sizeLine
  zw : wordB r.z = true
  u_ : r.u = "a"
theorem right_plain {K : PySem.W.Frag} {H : Hp} {dp lv : Addr} {rows : List K54C.Row} (n1 : 1 ≤ rows.length) (n3 : rows.length ≤ 3) (nd : (rows.map (·.z)).Nodup) (hd : H dp = some (.dK (dictOf rows))) (hl : H lv = some (.lst [])) (h : ∀ r ∈ rows, PlR H r) : Right K H (.ref dp) (.ref lv) (.int 1) .non rows ⟨lv, true, []⟩ 1 none := by
  have k4 : keysB (([] : List Str).map V.str) 4 = true := by decide +kernel
  have ua : wordB ("a" : Str) = true := by decide +kernel
  have k8 : keysB (([] : List Str).map V.str) 8 = true := by decide +kernel
  refine ⟨⟨dp, rfl, hd, fun r hr => ?_⟩, n1, n3, nd, List.all_eq_true.mpr fun r hr => ?_, ⟨rfl, kl_of (H := H) (a := lv) (b := true) (ks := []) (m := 4) hl ⟨List.nodup_nil, by decide, fun _ h => nomatch h⟩ (by decide), k4⟩, ⟨rfl, by decide, by decide⟩, .inl ⟨rfl, rfl⟩⟩
  · have R := h r hr
    have na : r.a ≠ dp := fun e => by have := R.ls; rw [e, hd] at this; cases this
    have sq : H r.a = some (seqO r.b r.ks) := by rw [R.b_, R.ks]; exact R.ls
    refine ⟨R.tp, (fun e => by have := R.tp; rw [e, hd] at this; cases this), na, seqO_is sq, fun H' s => seqO_ty (s _ _ sq na), by rw [R.ks]; decide, by rw [R.ks]; exact (fun _ h => nomatch h), R.zl, by rw [R.u_]; decide +kernel⟩
  · have R := h r hr
    unfold rowB
    rw [R.zw, R.ks, R.u_, ua, k8]; rfl
theorem init_plain {P : Program} {w : World} {K : PySem.W.Frag} {C CI : Addr} {HG : Hp} {dp lv x dx : Addr} {rows : List K54C.Row} {Q : VK} {E : XK} (RR : Right K HG (.ref dp) (.ref lv) (.int 1) .non rows ⟨lv, true, []⟩ 1 none) (nx : HG x = none) (ndx : HG dx = none) (ne : dx ≠ x)
    (k : ∀ c H2, CAt (fun _ => True) C H2 x c → CtOk c → c.us.map (·.z) = srtW (rows.map (·.z)) → Same HG H2 → Q .non H2) :
    K54C.spCInit P w K C CI [.ref x, .ref dp, .ref lv, .int 1, .non] (upd (upd HG dx (.own x)) x (.ins C dx [])) Q E :=
  ⟨x, dx, _, _, _, _, HG, rfl, upd_same, same_new' (same_new ndx) (by rw [upd_ne (Ne.symm ne)]; exact nx), nx, .inl ⟨_, _, _, _, RR, fun H2 c ca md ok2 s2 => k c H2 (ca.wider fun _ _ => trivial) ok2 md.zs s2⟩⟩
theorem GdC.keep {C : Addr} {H H' : Hp} {zs : List Str} {y : V} (h : GdC C H zs y) (s : Same H H') : GdC C H' zs y := by
  obtain ⟨x, c, rfl, at_, ok, cz⟩ := h
  exact ⟨x, c, rfl, at_.same s, ok, cz⟩
theorem ask_none {K : PySem.W.Frag} {H : Hp} {Q : VK} (q : Q (.bl false) H) : rNeD K (.str "none") (.str "none") H Q :=
  ⟨.str "none", .str "none", .str _, .str _, by decide +kernel, by decide +kernel, by rw [show PyData.eqv (.str "none") (.str "none") = true by decide +kernel]; exact q⟩
def spArg (PC C FC KC : Addr) : Sp := fun vs H Q _ => ∃ (p f l : Addr) (n : Nat) (m : Int) (es : List Ed) (ks : K54F.Ks) (cl : List Cl) (e0 e : Ed), vs = [.ref p, .ref f, .ref l, .int n, .int m] ∧ PlAt PC C H p es ∧ FlAt FC KC H f ks cl ∧ cl.length ≤ 6 ∧ ks.length ≤ 5 ∧ es[0]? = some e0 ∧ es[n]? = some e ∧ e.m = m ∧ m ≤ 5 * 10 ^ 31 ∧ missR cl (e0.c.us.map (·.z)) = none ∧
  H l = some (.lst ((e0.c.us.map (·.z)).map V.str)) ∧ (∀ z ∈ e0.c.us.map (·.z), Wd z) ∧ (∀ m' x c, m < m' → m' ≤ LM → ∀ q ∈ cl, ClB ks (mos (cutE es n m' x c)) q) ∧ ∀ H', Same H H' → Q (.bl true) H'
section
variable {P : Program} {w : World} {K : PySem.W.Frag} {mg : Str → Option Value} {base : Heap} {C PC FC KC CI : Addr}
abbrev s_law_numbers_right : Stmt := top 104
theorem sc_law_numbers_right : FnScope ["plan", "fleet", "count", "odd", "way"] ["plan", "fleet", "count"] (defScope s_law_numbers_right) := ⟨rfl, rfl, rfl, by decide +kernel, rfl, by decide +kernel, by decide +kernel⟩
theorem ok_num (D : DefK K mg "_law_numbers_right" s_law_numbers_right) (T : TxP K mg) (G_law_told_error : CalG P w K mg base CX0 16 "_law_told_error" (spTe K PC C FC KC)) : CalG P w K mg base CX0 17 "_law_numbers_right" (spNum PC C FC KC) := by
  refine D.calG sc_law_numbers_right (fun _ _ _ _ _ _ us hl => match us, hl with | [_, _, _], _ => rfl) (fun vs H Q E h => ?_) fun f0 cdv A outer s H vs Q E g hr h => ?_
  · obtain ⟨p, f, n, es, ks, cl, e0, rfl, _⟩ := h; rfl
  · obtain ⟨p, f, n, es, ks, cl, e0, rfl, pl, fl, c6, k5, e00, mr, en, kQ⟩ := h
    have hu : (A.deeper (envOfC "_law_numbers_right" (defScope s_law_numbers_right) s.heap.objs.size f0 cdv)).units + 64 < cLine := hr.units
    refine ⟨_, (C8.pss_cut (ps_for PassesOwn.never rfl (pi_list (pe_lst (pa_cons (pe_un un_neg pe_int) (pa_cons (pv 2) (pa_cons pe_non (pa_cons pe_bl (pa_cons pe_str (pa_cons (pe_lst (pa_cons pe_int pa_nil)) (pa_cons (pe_tup pa_nil) (pa_cons (pe_op op_pow pe_int pe_int) pa_nil)))))))))) (pg_name (i := 3) sc_law_numbers_right.nd rfl (Or.inl rfl)) (pss_one (ps_for PassesOwn.never rfl (pi_range1 (by rfl) T.b_range (pa_cons pe_int pa_nil)) (pg_name (i := 4) sc_law_numbers_right.nd rfl (Or.inl rfl)) (pss_one (ps_if (pt_cmpR (op_neD hu) (pe_cG G_law_told_error g hr (by decide) rfl (pa_cons (pv 4) (pa_cons (pv 0) (pa_cons (pv 1) (pa_cons (pv 3) (pa_cons pe_non (pa_cons pe_non pa_nil))))))) (pe_lst (pa_cons pe_str (pa_cons (pe_callB (call_shw g hu) (by rfl) T.b_repr (by decide +kernel) (pa_cons (pv 3) pa_nil)) (pa_cons pe_bl pa_nil)))) (nomark _)) (pss_one (ps_ret pe_bl)) pss_nil)))))
      (C8.pss_cut (ps_for PassesOwn.never rfl (pi_list (pe_lst (pa_cons pe_int (pa_cons pe_int pa_nil)))) (pg_name (i := 4) sc_law_numbers_right.nd rfl (Or.inl rfl)) (pss_one (ps_if (pt_cmpR (op_neD hu) (pe_cG G_law_told_error g hr (by decide) rfl (pa_cons (pv 4) (pa_cons (pv 0) (pa_cons (pv 1) (pa_cons pe_int (pa_cons pe_non (pa_cons pe_non pa_nil))))))) (pe_lst (pa_cons pe_str (pa_cons pe_str (pa_cons pe_bl pa_nil)))) (nomark _)) (pss_one (ps_ret pe_bl)) pss_nil)))
      (pss_one (ps_ret pe_bl)))), ?_⟩
    have n1 := pl.ok.n1
    have n7 := pl.ok.n7
    refine ⟨fun σ' H' => (∃ v3 v4, σ' = [some (.ref p), some (.ref f), some (.int n), v3, v4]) ∧ Same H H', ?_, ?_⟩
    · refine for_gvl (H0 := H) (σ := [some (.ref p), some (.ref f), some (.int n), none, none]) (valsD (K := K) rfl (by omega) (by omega)) (by simp) fun l vs H1 s1 el pv => ⟨fun i sg' H' => (∃ v3 v4, sg' = [some (.ref p), some (.ref f), some (.int n), v3, v4]) ∧ Same H1 H', ⟨⟨_, _, rfl⟩, .refl _⟩, (fun i sg' H' ⟨_, e⟩ => LamX.ExtN.of e), ?_, ?_⟩
      · rintro i y sg' H' hy ⟨⟨v3, v4, rfl⟩, s'⟩
        have p1 : PB K (n - 1) (noT H1) y := par_rep pv y (List.mem_of_getElem? hy)
        obtain ⟨tx, oktx, shN⟩ := p1.2
        have bad := badR_keep p1.1 noT_same
        refine ⟨3, rfl, by decide, by decide, ?_⟩
        refine for_range (lo := 0) (fun j sg' H3 => (∃ v4, sg' = [some (.ref p), some (.ref f), some (.int n), some y, v4]) ∧ Same H' H3) ⟨⟨_, rfl⟩, .refl _⟩ ?_ ?_
        · rintro j sg2 H3 hj ⟨⟨v4, rfl⟩, s3⟩
          have s13 := s'.trans s3
          have s03 := s1.trans s13
          have hj : j < 3 := hj
          have wy : ((0 : Int) + (j : Nat) = 0 ∨ (0 : Int) + (j : Nat) = 1 ∨ (0 : Int) + (j : Nat) = 2) := by omega
          refine ⟨_, rfl, _, rfl, _, rfl, _, rfl, use_te (y := y) (tx := tx) (pl.same s03) (fl.same s03) e00 c6 k5 (.inr ⟨mr, .inl ⟨wy, by rw [en]; exact badR_keep bad s13, rfl, rfl⟩⟩) (fun H4 s4 => shN H4 (noT_same.trans (s13.trans s4))) fun l4 H4 nl4 s4 e4 => ?_⟩
          refine ⟨_, rfl, y, tx, rfl, shN _ (noT_same.trans (s13.trans s4)), by show 3 ≤ sizeLine; decide, fun l5 nl5 => ask_row (okd (by decide +kernel)) oktx (same_new nl5 _ _ e4) upd_same ⟨_, rfl, iteF ⟨⟨_, rfl⟩, s3.trans (s4.trans (same_new nl5))⟩⟩⟩
        · rintro sg2 H3 ⟨⟨v4, rfl⟩, s3⟩
          exact ⟨⟨_, _, rfl⟩, s'.trans s3⟩
      · rintro sg' H' ⟨⟨v3, v4, rfl⟩, s'⟩
        exact ⟨⟨_, _, rfl⟩, s1.trans s'⟩
    rintro _ HA ⟨⟨vA3, vA4, rfl⟩, sA⟩
    refine ⟨fun σ' H' => (∃ v3 v4, σ' = [some (.ref p), some (.ref f), some (.int n), v3, v4]) ∧ Same H H', ?_, ?_⟩
    · refine ⟨by show 2 ≤ sizeLine; decide, fun l1 nl1 => ⟨l1, rfl, ⟨_, SqL.of upd_same⟩, ?_⟩⟩
      have s1 := sA.trans (same_new (o := .lst [.int 1, .int 2]) nl1)
      have el : upd HA l1 (.lst [.int 1, .int 2]) l1 = some (.lst [.int 1, .int 2]) := upd_same
      generalize upd HA l1 (.lst [.int 1, .int 2]) = H1 at *
      show Exists _
      refine for_list (K := K) (a := l1) (xs := [.int 1, .int 2]) (fun i sg' H' => (∃ v4, sg' = [some (.ref p), some (.ref f), some (.int n), vA3, v4]) ∧ Same H1 H') ⟨⟨_, rfl⟩, .refl _⟩ (fun i sg' H' _ ⟨_, s⟩ => SqL.of (s _ _ el)) ?_ ?_
      · rintro i y sg' H' hy ⟨⟨v4, rfl⟩, s'⟩
        obtain ⟨w0, rfl, hw⟩ : ∃ w0 : Int, y = .int w0 ∧ (w0 = 1 ∨ w0 = 2) := by
          have m := List.mem_of_getElem? hy
          simp only [List.mem_cons, List.not_mem_nil, or_false] at m
          rcases m with rfl | rfl
          · exact ⟨_, rfl, .inl rfl⟩
          · exact ⟨_, rfl, .inr rfl⟩
        refine ⟨_, rfl, _, rfl, _, rfl, use_te (y := .int 0) (tx := "0") (pl.same (s1.trans s')) (fl.same (s1.trans s')) e00 c6 k5 (.inr ⟨mr, .inr (.inl ⟨hw, rfl, rfl, rfl⟩)⟩) (fun H4 s4 => .int 0 (by decide +kernel)) fun l4 H4 nl4 s4 e4 => ?_⟩
        refine ⟨by show 3 ≤ sizeLine; decide, fun l5 nl5 => ask_row (okd (by decide +kernel)) (okd (by decide +kernel)) (same_new nl5 _ _ e4) upd_same ⟨_, rfl, iteF ⟨⟨_, rfl⟩, s'.trans (s4.trans (same_new nl5))⟩⟩⟩
      · rintro sg' H' ⟨⟨v4, rfl⟩, s'⟩
        exact ⟨⟨_, _, rfl⟩, s1.trans s'⟩
    rintro _ HB ⟨⟨vB3, vB4, rfl⟩, sB⟩
    exact kQ _ sB
abbrev s_law_arguments_right : Stmt := top 105
theorem sc_law_arguments_right : FnScope ["plan", "fleet", "parts", "number", "moment", "odd", "good", "more", "told", "due", "part"] ["plan", "fleet", "parts", "number", "moment"] (defScope s_law_arguments_right) := ⟨rfl, rfl, rfl, by decide +kernel, rfl, by decide +kernel, by decide +kernel⟩
theorem ok_arg (D : DefK K mg "_law_arguments_right" s_law_arguments_right) (T : K54C.Txt K mg) (J : K54C.CTx K mg C) (M_Contents2 : MakN P w K mg base (L2.CX P w) 7 "Contents" C 2 [] (fun vs zs => vs ++ zs ++ [.int 1, .non]) (K54C.spCInit P w K C CI)) (G_law_told_error : CalG P w K mg base CX0 16 "_law_told_error" (spTe K PC C FC KC)) : CalG P w K mg base CX0 17 "_law_arguments_right" (spArg PC C FC KC) := by
  refine D.calG sc_law_arguments_right (fun _ _ _ _ _ _ us hl => match us, hl with | [_, _, _, _, _], _ => rfl) (fun vs H Q E h => ?_) fun f0 cdv A outer s H vs Q E g hr h => ?_
  · obtain ⟨p, f, l, n, m, es, ks, cl, e0, e, rfl, _⟩ := h; rfl
  · obtain ⟨p, f, l, n, m, es, ks, cl, e0, e, rfl, pl, fl, c6, k5, e00, he, em, mL, mr, el, wz, cb, kQ⟩ := h
    have hu : (A.deeper (envOfC "_law_arguments_right" (defScope s_law_arguments_right) s.heap.objs.size f0 cdv)).units + 64 < cLine := hr.units
    refine ⟨_, (C8.pss_cut (ps_par (i := 6) (j := 7) (by rfl) sc_law_arguments_right.nd rfl rfl (by decide) rfl rfl (pa_cons (pe_mkNS M_Contents2 takes0 hr (by decide) rfl (pa_cons (pe_callTy (call_dictP rfl) (by rfl) T.b_dict (by decide +kernel) (pa_cons (pe_lc (own := [("part", 10)]) (g := gName 10) (by rfl) sc_law_arguments_right.nd (pi_list (pv 2)) (blkOk_by (own := [("part", 10)]) (N := ["plan", "fleet", "parts", "number", "moment", "odd", "good", "more", "told", "due", "part"]) (sc := defScope s_law_arguments_right) (by decide +kernel)) (fun _ _ _ _ _ => pg_name (i := 10) sc_law_arguments_right.nd rfl (Or.inl rfl)) (fun _ _ _ _ _ => pts_nil) (fun _ _ _ _ _ => (pe_tup (pa_cons (pv 10) (pa_cons (pe_tup (pa_cons (pe_lst pa_nil) (pa_cons pe_str pa_nil))) pa_nil))))) pa_nil)) (pa_cons (pe_lst pa_nil) pa_nil)) pk_nil) (pa_cons (pe_disp (pps_cons pe_str (pe_tup (pa_cons (pe_lst pa_nil) (pa_cons pe_str pa_nil))) pps_nil) (by rfl) (by rfl) (fun z => nomatch z) (by decide)) pa_nil)) (by rfl))
      (C8.pss_cut (ps_for PassesOwn.never rfl (pi_list (pe_lst (pa_cons pe_non (pa_cons pe_int (pa_cons pe_str (pa_cons pe_dnewK (pa_cons (pe_lst (pa_cons (pv 6) pa_nil)) (pa_cons (pe_mkNS M_Contents2 takes0 hr (by decide) rfl (pa_cons (pv 7) (pa_cons (pe_lst pa_nil) pa_nil)) pk_nil) (pa_cons (pe_mkNS M_Contents2 takes0 hr (by decide) rfl (pa_cons (pe_disp (pps_cons pe_str (pe_tup (pa_cons (pe_lst pa_nil) (pa_cons pe_str pa_nil))) (pps_cons pe_str (pe_tup (pa_cons (pe_lst pa_nil) (pa_cons pe_str pa_nil))) pps_nil)) (by rfl) (by rfl) (fun z => nomatch z) (by decide)) (pa_cons (pe_lst pa_nil) pa_nil)) pk_nil) pa_nil))))))))) (pg_name (i := 5) sc_law_arguments_right.nd rfl (Or.inl rfl)) (pss_one (ps_if (pt_cmpR (op_neD hu) (pe_cG G_law_told_error g hr (by decide) rfl (pa_cons pe_int (pa_cons (pv 0) (pa_cons (pv 1) (pa_cons (pv 3) (pa_cons (pv 5) (pa_cons (pe_un un_neg pe_int) pa_nil))))))) (pe_lst (pa_cons pe_str (pa_cons pe_str (pa_cons pe_bl pa_nil)))) (nomark _)) (pss_one (ps_ret pe_bl)) pss_nil)))
      (C8.pss_cut (ps_for PassesOwn.never rfl (pi_list (pe_lst (pa_cons (pv 4) (pa_cons (pe_op op_sub (pv 4) pe_int) (pa_cons pe_int (pa_cons (pe_un un_neg pe_int) (pa_cons (pe_op op_add (pe_op op_pow pe_int pe_int) pe_int) (pa_cons pe_non (pa_cons pe_bl (pa_cons pe_str (pa_cons (pe_lst (pa_cons (pe_op op_add (pv 4) pe_int) pa_nil)) pa_nil))))))))))) (pg_name (i := 5) sc_law_arguments_right.nd rfl (Or.inl rfl)) (pss_cons (ps_if (pt_cmpR (op_neD hu) (pe_cG G_law_told_error g hr (by decide) rfl (pa_cons pe_int (pa_cons (pv 0) (pa_cons (pv 1) (pa_cons (pv 3) (pa_cons (pv 6) (pa_cons (pv 5) pa_nil))))))) (pe_lst (pa_cons pe_str (pa_cons (pe_callB (call_shw g hu) (by rfl) T.b_repr (by decide +kernel) (pa_cons (pv 5) pa_nil)) (pa_cons pe_bl pa_nil)))) (nomark _)) (pss_one (ps_ret pe_bl)) pss_nil)
      (pss_cons (ps_set (i := 8) sc_law_arguments_right.nd rfl (Or.inl rfl) (pe_cG G_law_told_error g hr (by decide) rfl (pa_cons pe_int (pa_cons (pv 0) (pa_cons (pv 1) (pa_cons (pv 3) (pa_cons pe_non (pa_cons (pv 5) pa_nil))))))))
      (pss_one (ps_if (PW.pt (pw_and (pt_cmpR op_gt (pv 3) pe_int (nomark _)) (pw_and1 (pt_cmpR (op_neD hu) (pv 8) (pe_lst (pa_cons pe_str (pa_cons (pe_callB (call_shw g hu) (by rfl) T.b_repr (by decide +kernel) (pa_cons (pv 5) pa_nil)) (pa_cons pe_bl pa_nil)))) (nomark _))))) (pss_one (ps_ret pe_bl)) pss_nil)))))
      (C8.pss_cut (ps_if (pt_cmpR op_gt (pv 3) pe_int (nomark _)) (pss_cons (ps_set (i := 9) sc_law_arguments_right.nd rfl (Or.inl rfl) (pe_ifExp (pt_cmpR op_eq (pv 3) pe_int (nomark _)) (pe_lst (pa_cons pe_str (pa_cons pe_str (pa_cons pe_bl pa_nil)))) pe_str))
      (pss_cons (ps_if (pt_cmpR (op_neD hu) (pe_cG G_law_told_error g hr (by decide) rfl (pa_cons pe_int (pa_cons (pv 0) (pa_cons (pv 1) (pa_cons (pv 3) (pa_cons pe_non (pa_cons (pe_op op_add (pv 4) pe_int) pa_nil))))))) (pv 9) (nomark _)) (pss_one (ps_ret pe_bl)) pss_nil)
      (pss_one (ps_if (pt_cmpR (op_neD hu) (pe_cG G_law_told_error g hr (by decide) rfl (pa_cons pe_int (pa_cons (pv 0) (pa_cons (pv 1) (pa_cons (pv 3) (pa_cons pe_non (pa_cons (pe_op op_pow pe_int pe_int) pa_nil))))))) (pv 9) (nomark _)) (pss_one (ps_ret pe_bl)) pss_nil)))) pss_nil)
      (pss_cons (ps_for PassesOwn.never rfl (pi_list (pe_lst (pa_cons (pe_op op_add (pv 4) pe_int) (pa_cons (pe_op op_pow pe_int pe_int) pa_nil)))) (pg_name (i := 5) sc_law_arguments_right.nd rfl (Or.inl rfl)) (pss_one (ps_if (pt_cmpR (op_neD hu) (pe_cG G_law_told_error g hr (by decide) rfl (pa_cons pe_int (pa_cons (pv 0) (pa_cons (pv 1) (pa_cons (pv 3) (pa_cons (pv 6) (pa_cons (pv 5) pa_nil))))))) pe_str (nomark _)) (pss_one (ps_ret pe_bl)) pss_nil)))
      (pss_one (ps_ret pe_bl))))))), ?_⟩
    have n1 := pl.ok.n1
    have n7 := pl.ok.n7
    have a0 := pl.eds e0 (List.mem_of_getElem? e00)
    have ae := pl.eds e (List.mem_of_getElem? he)
    have rl : e.c.us.map (·.z) = e0.c.us.map (·.z) := pl.ok.rl e (List.mem_of_getElem? he) e0 (List.mem_of_getElem? e00)
    have mB := pl.ok.mo e (List.mem_of_getElem? he)
    rw [em] at mB
    have z1 : 1 ≤ (e0.c.us.map (·.z)).length := by rw [List.length_map]; exact a0.ok.n1
    have z3 : (e0.c.us.map (·.z)).length ≤ 3 := by rw [List.length_map]; exact a0.ok.n3
    have znd := a0.ok.nd
    have zso := a0.ok.so
    generalize hz : e0.c.us.map (·.z) = zs at *
    refine ⟨fun σ' H' => ∃ (xg dm tm lm : Addr), σ' = [some (.ref p), some (.ref f), some (.ref l), some (.int n), some (.int m), none, some (.ref xg), some (.ref dm), none, none, none] ∧ Same H H' ∧ GdC C H' zs (.ref xg) ∧ H' dm = some (.dK [(.inr "otherone", .ref tm)]) ∧ H' tm = some (.tup [.ref lm, .str "a"]) ∧ H' lm = some (.lst []), ?_, ?_⟩
    · refine ⟨_, rfl, l, rfl, ⟨_, SqL.of el⟩, fun D nD => ?_⟩
      refine lc_list (K := K) (a := l) (xs := zs.map V.str) (fun i H' => ∃ ps : List (Addr × K54C.Row), H' D = some (.lst ((ps.map (·.1)).map V.ref)) ∧ ps.map (·.2.z) = zs.take i ∧ (∀ p ∈ ps, CpAt H' D p.1 true p.2 ∧ p.2.ks = [] ∧ p.2.u = "a") ∧ Same H H') ⟨[], upd_same, rfl, (fun _ h => nomatch h), same_new nD⟩ (fun i H' _ ⟨_, _, _, _, s⟩ => SqL.of (s _ _ el)) ?_ ?_
      · rintro i x H' hx ⟨ps, eD, eP, cP, sP⟩
        obtain ⟨z, ez, rfl⟩ : ∃ z, zs[i]? = some z ∧ x = .str z := by
          rw [List.getElem?_map] at hx
          cases c : zs[i]? with
          | none => rw [c] at hx; cases hx
          | some r => rw [c] at hx; exact ⟨r, rfl, (Option.some.inj hx).symm⟩
        have tk : zs.take (i + 1) = zs.take i ++ [z] := by rw [List.take_succ, ez]; rfl
        refine ⟨rfl, K54C.yes_if ⟨_, rfl, Nat.zero_le _, fun a na => ⟨by show 2 ≤ sizeLine; decide, fun t nt => ⟨by show 2 ≤ sizeLine; decide, fun pp np => ?_⟩⟩⟩⟩
        obtain ⟨q1, q2⟩ := cp_new (z := z) (u := "a") (b := true) (ks := []) eD (ne_of_none eD na).symm (same_new na) (show upd H' a (.lst []) a = some (seqO true []) from upd_same) nt np
        generalize upd (upd (upd H' a (.lst [])) t (.tup [.ref a, .str "a"])) pp (.tup [.str z, .ref t]) = H4 at *
        have pl : ps.length = i := by
          have z1 := congrArg List.length eP
          have lt : i < zs.length := (List.getElem?_eq_some_iff.mp ez).1
          rw [List.length_map, List.length_take] at z1
          omega
        have lt : i < zs.length := (List.getElem?_eq_some_iff.mp ez).1
        refine ⟨_, q1 _ _ eD, by rw [List.length_map, List.length_map, pl, sizeLine_eq]; omega, ps ++ [(pp, ⟨z, t, a, true, [], "a"⟩)], by rw [upd_same, List.map_append, List.map_append]; rfl, by rw [List.map_append, eP, tk]; rfl, fun q hq => ?_, fun q o e => by rw [upd_ne (ne_of_none e nD)]; exact q1 _ _ (sP _ _ e)⟩
        rcases List.mem_append.mp hq with hq | hq
        · exact ⟨((cP q hq).1.keep q1).up, (cP q hq).2⟩
        · obtain rfl := List.mem_singleton.mp hq
          exact ⟨q2.up, rfl, rfl⟩
      · rintro H' ⟨ps, eD, eP, cP, sP⟩
        rw [List.length_map, List.take_length] at eP
        have nd : (ps.map (·.2.z)).Nodup := by rw [eP]; exact znd
        refine ⟨D, ps.map (·.1), cpKv ps, rfl, SqL.of eD, paired_cp fun p hp => (cP p hp).1, fun dd ndd => ?_⟩
        rw [cp_merge nd]
        have g1 := same_new (o := .dK (dictOf (ps.map (·.2)))) ndd
        have ed : upd H' dd (.dK (dictOf (ps.map (·.2)))) dd = some (.dK (dictOf (ps.map (·.2)))) := upd_same
        have sF := sP.trans g1
        have cF := fun p hp => ((cP p hp).1.keep g1)
        generalize upd H' dd (.dK (dictOf (ps.map (·.2)))) = HF at *
        refine ⟨Nat.zero_le _, fun lv nlv => ?_⟩
        have g2 := same_new (o := .lst []) nlv
        have elv : upd HF lv (.lst []) lv = some (.lst []) := upd_same
        have sG := sF.trans g2
        have ed := g2 _ _ ed
        have cG := fun p hp => ((cF p hp).keep g2)
        generalize upd HF lv (.lst []) = HG at *
        have rz : (ps.map (·.2)).map (·.z) = zs := by rw [List.map_map]; exact eP
        have rl' : (ps.map (·.2)).length = zs.length := by rw [List.length_map, ← eP, List.length_map]
        have RR := right_plain (K := K) (H := HG) (dp := dd) (lv := lv) (rows := ps.map (·.2)) (by rw [rl']; exact z1) (by rw [rl']; exact z3) (by rw [rz]; exact znd) ed elv fun r hr => by
          obtain ⟨pp, hp, rfl⟩ := List.mem_map.mp hr
          have c0 := cG pp hp
          have w0 := wz pp.2.z (by rw [← eP]; exact List.mem_map_of_mem hp)
          exact ⟨c0.tp, by have := c0.sq; rw [(cP pp hp).2.1] at this; exact this, c0.b_, (cP pp hp).2.1, w0.ok.1, w0.ok.2, (cP pp hp).2.2⟩
        refine ⟨rfl, rfl, fun x dx nx ndx nex => init_plain RR nx ndx nex fun c H2 ca ok2 cz s2 => ⟨rfl, ?_⟩⟩
        have cz : c.us.map (·.z) = zs := by rw [cz, rz]; exact (srt_eq zso (List.Perm.refl _)).symm
        intro ep nep
        refine ⟨by show 0 ≤ sizeLine; decide, fun f1 nf1 => ⟨by show 2 ≤ sizeLine; decide, fun g1 ng1 => ?_⟩⟩
        have m0 := same_new (o := .dK []) nep
        have m1 := same_new (o := .lst []) nf1
        have m2 := same_new (o := .tup [.ref f1, .str "a"]) ng1
        obtain ⟨HK, eHK⟩ : ∃ HK, HK = upd (upd (upd H2 ep (.dK [])) f1 (.lst [])) g1 (.tup [.ref f1, .str "a"]) := ⟨_, rfl⟩
        have j1 : HK f1 = some (.lst []) := by rw [eHK]; exact m2 _ _ upd_same
        have j2 : HK g1 = some (.tup [.ref f1, .str "a"]) := by rw [eHK]; exact upd_same
        have j0 : HK ep = some (.dK []) := by rw [eHK]; exact m2 _ _ (m1 _ _ upd_same)
        have sK : Same H2 HK := by rw [eHK]; exact (m0.trans m1).trans m2
        rw [← eHK]
        clear eHK m0 m1 m2
        refine ⟨j0, [(.inr "otherone", .ref g1)], rfl, by show 1 ≤ 15; decide, ?_⟩
        rw [K54C.mergeK_id _ [] (by show ([Sum.inr "otherone"] : List Key).Nodup; decide +kernel), List.nil_append]
        have ne2 : ∀ {q : Addr} {o : HO}, HK q = some o → o ≠ .dK [] → q ≠ ep := fun e n z => by rw [z, j0] at e; exact n (Option.some.inj e).symm
        have sL : Same H2 (upd HK ep (.dK [(.inr "otherone", .ref g1)])) := fun q o e => by rw [upd_ne (ne_of_none e nep)]; exact sK _ _ e
        refine ⟨_, _, rfl, x, ep, g1, f1, rfl, (sG.trans s2).trans sL, ⟨x, c, rfl, ca.same sL, ok2, cz⟩, upd_same, by rw [upd_ne (ne2 j2 (by intro z; cases z))]; exact j2, by rw [upd_ne (ne2 j1 (by intro z; cases z))]; exact j1⟩
    rintro _ HA ⟨xg, dm, tm, lm, rfl, sA, gd, e1, e2, e3⟩
    refine ⟨fun σ' H' => (∃ v5, σ' = [some (.ref p), some (.ref f), some (.ref l), some (.int n), some (.int m), v5, some (.ref xg), some (.ref dm), none, none, none]) ∧ Same HA H', ?_, ?_⟩
    · refine fun d1 nd1 => ⟨_, rfl, by show 1 ≤ sizeLine; decide, fun l1 nl1 => ⟨_, rfl, Nat.zero_le _, fun l2 nl2 => ⟨rfl, rfl, ?_⟩⟩⟩
      have b1 := same_new (o := .dK []) nd1
      have b2 := same_new (o := .lst [.ref xg]) nl1
      have b3 := same_new (o := .lst []) nl2
      obtain ⟨HB, eHB⟩ : ∃ HB, HB = upd (upd (upd HA d1 (.dK [])) l1 (.lst [.ref xg])) l2 (.lst []) := ⟨_, rfl⟩
      have c1 : HB d1 = some (.dK []) := by rw [eHB]; exact b3 _ _ (b2 _ _ upd_same)
      have c2 : HB l1 = some (.lst [.ref xg]) := by rw [eHB]; exact b3 _ _ upd_same
      have c3 : HB l2 = some (.lst []) := by rw [eHB]; exact upd_same
      have sB : Same HA HB := by rw [eHB]; exact (b1.trans b2).trans b3
      rw [← eHB]
      clear eHB b1 b2 b3
      have R1 := right_plain (K := K) (H := HB) (dp := dm) (lv := l2) (rows := [⟨"otherone", tm, lm, true, [], "a"⟩]) (by show 1 ≤ 1; decide) (by show 1 ≤ 3; decide) (List.pairwise_singleton ..) (sB _ _ e1) c3 fun r hr => by
        obtain rfl := List.mem_singleton.mp hr
        exact ⟨sB _ _ e2, sB _ _ e3, rfl, rfl, by show 8 ≤ sizeLine; decide, (show wordB "otherone" = true by decide +kernel), rfl⟩
      refine fun x1 dx1 nx1 ndx1 ne1 => init_plain R1 nx1 ndx1 ne1 fun c4 HC ca1 ok1 cz1 sC => ⟨rfl, ?_⟩
      have cz1 : c4.us.map (·.z) = (["otherone"] : List Str) := cz1.trans (srt_eq (l := ["otherone"]) (by decide +kernel) (List.Perm.refl _)).symm
      intro ep nep
      refine ⟨by show 0 ≤ sizeLine; decide, fun f1 nf1 => ⟨by show 2 ≤ sizeLine; decide, fun g1 ng1 => ⟨by show 0 ≤ sizeLine; decide, fun f2 nf2 => ⟨by show 2 ≤ sizeLine; decide, fun g2 ng2 => ?_⟩⟩⟩⟩
      have m0 := same_new (o := .dK []) nep
      have m1 := same_new (o := .lst []) nf1
      have m2 := same_new (o := .tup [.ref f1, .str "a"]) ng1
      have m3 := same_new (o := .lst []) nf2
      have m4 := same_new (o := .tup [.ref f2, .str "a"]) ng2
      obtain ⟨HK, eHK⟩ : ∃ HK, HK = upd (upd (upd (upd (upd HC ep (.dK [])) f1 (.lst [])) g1 (.tup [.ref f1, .str "a"])) f2 (.lst [])) g2 (.tup [.ref f2, .str "a"]) := ⟨_, rfl⟩
      have j4 : HK g2 = some (.tup [.ref f2, .str "a"]) := by rw [eHK]; exact upd_same
      have j3 : HK f2 = some (.lst []) := by rw [eHK]; exact m4 _ _ upd_same
      have j2 : HK g1 = some (.tup [.ref f1, .str "a"]) := by rw [eHK]; exact m4 _ _ (m3 _ _ upd_same)
      have j1 : HK f1 = some (.lst []) := by rw [eHK]; exact m4 _ _ (m3 _ _ (m2 _ _ upd_same))
      have j0 : HK ep = some (.dK []) := by rw [eHK]; exact m4 _ _ (m3 _ _ (m2 _ _ (m1 _ _ upd_same)))
      have sK : Same HC HK := by rw [eHK]; exact (((m0.trans m1).trans m2).trans m3).trans m4
      rw [← eHK]
      clear eHK m0 m1 m2 m3 m4
      refine ⟨j0, dictOf [⟨"a", g1, f1, true, [], "a"⟩, ⟨"stranger", g2, f2, true, [], "a"⟩], rfl, by show 2 ≤ 15; decide, ?_⟩
      rw [K54C.mergeK_id _ [] (by show ([Sum.inr "a", Sum.inr "stranger"] : List Key).Nodup; decide +kernel), List.nil_append]
      have ne2 : ∀ {q : Addr} {o : HO}, HK q = some o → o ≠ .dK [] → q ≠ ep := fun e n z => by rw [z, j0] at e; exact n (Option.some.inj e).symm
      have sL : Same HC (upd HK ep (.dK (dictOf [⟨"a", g1, f1, true, [], "a"⟩, ⟨"stranger", g2, f2, true, [], "a"⟩]))) := fun q o e => by rw [upd_ne (ne_of_none e nep)]; exact sK _ _ e
      have k0 : upd HK ep (.dK (dictOf [⟨"a", g1, f1, true, [], "a"⟩, ⟨"stranger", g2, f2, true, [], "a"⟩])) ep = some (.dK (dictOf [⟨"a", g1, f1, true, [], "a"⟩, ⟨"stranger", g2, f2, true, [], "a"⟩])) := upd_same
      have kN : ∀ {q : Addr} {o : HO}, HK q = some o → o ≠ .dK [] → upd HK ep (.dK (dictOf [⟨"a", g1, f1, true, [], "a"⟩, ⟨"stranger", g2, f2, true, [], "a"⟩])) q = some o := fun e n => by rw [upd_ne (ne2 e n)]; exact e
      have k1 := kN j1 (by intro z; cases z)
      have k2 := kN j2 (by intro z; cases z)
      have k3 := kN j3 (by intro z; cases z)
      have k4 := kN j4 (by intro z; cases z)
      generalize upd HK ep (.dK (dictOf [⟨"a", g1, f1, true, [], "a"⟩, ⟨"stranger", g2, f2, true, [], "a"⟩])) = HL at *
      refine ⟨by show 0 ≤ sizeLine; decide, fun lw nlw => ⟨rfl, rfl, ?_⟩⟩
      have y1 := same_new (o := .lst []) nlw
      have y0 : upd HL lw (.lst []) lw = some (.lst []) := upd_same
      generalize upd HL lw (.lst []) = HM at *
      have R2 := right_plain (K := K) (H := HM) (dp := ep) (lv := lw) (rows := [⟨"a", g1, f1, true, [], "a"⟩, ⟨"stranger", g2, f2, true, [], "a"⟩]) (by show 1 ≤ 2; decide) (by show 2 ≤ 3; decide) (by show (["a", "stranger"] : List Str).Nodup; decide +kernel) (y1 _ _ k0) y0 fun r hr => by
        simp only [List.mem_cons, List.not_mem_nil, or_false] at hr
        rcases hr with rfl | rfl
        · exact ⟨y1 _ _ k2, y1 _ _ k1, rfl, rfl, by show 1 ≤ sizeLine; decide, (show wordB "a" = true by decide +kernel), rfl⟩
        · exact ⟨y1 _ _ k4, y1 _ _ k3, rfl, rfl, by show 8 ≤ sizeLine; decide, (show wordB "stranger" = true by decide +kernel), rfl⟩
      refine fun x2 dx2 nx2 ndx2 ne2 => init_plain R2 nx2 ndx2 ne2 fun c5 HN ca2 ok5 cz2 sN => ⟨rfl, ?_⟩
      have cz2 : c5.us.map (·.z) = (["a", "stranger"] : List Str) := cz2.trans (srt_eq (l := ["a", "stranger"]) (by decide +kernel) (List.Perm.refl _)).symm
      have sBN : Same HC HN := (sL.trans y1).trans sN
      have sAN : Same HA HN := (sB.trans sC).trans sBN
      refine ⟨by show 7 ≤ sizeLine; decide, fun lo nlo => ⟨lo, rfl, ⟨_, SqL.of upd_same⟩, ?_⟩⟩
      have sO := same_new (o := .lst [.non, .int 5, .str "a", .ref d1, .ref l1, .ref x1, .ref x2]) nlo
      have eO : upd HN lo (.lst [.non, .int 5, .str "a", .ref d1, .ref l1, .ref x1, .ref x2]) lo = some (.lst [.non, .int 5, .str "a", .ref d1, .ref l1, .ref x1, .ref x2]) := upd_same
      have sAO := sAN.trans sO
      have sCO := sBN.trans sO
      have sNO := sO
      generalize upd HN lo (.lst [.non, .int 5, .str "a", .ref d1, .ref l1, .ref x1, .ref x2]) = HO_ at *
      have d1O := sCO _ _ (sC _ _ c1)
      have l1O := sCO _ _ (sC _ _ c2)
      have ca1O := ca1.same sCO
      have ca2O := ca2.same sNO
      have bad : ∀ y ∈ ([.non, .int 5, .str "a", .ref d1, .ref l1, .ref x1, .ref x2] : List V), BadC K C HO_ zs y := by
        intro y hy
        simp only [List.mem_cons, List.not_mem_nil, or_false] at hy
        rcases hy with rfl | rfl | rfl | rfl | rfl | rfl | rfl
        · exact .inr ⟨_, fun _ _ => .base .non, J.kN⟩
        · exact .inr ⟨_, fun _ _ => .base (.int _), J.kI⟩
        · exact .inr ⟨_, fun _ _ => .base (.str _), J.kS⟩
        · exact .inr ⟨_, fun H' s' => .base (.dK (s' _ _ d1O)), J.kD⟩
        · exact .inr ⟨_, fun H' s' => .base (.lst (s' _ _ l1O)), J.kL⟩
        · refine .inl ⟨x1, c4, rfl, ca1O, by rw [cz1]; exact fun z hz => by rw [List.mem_singleton.mp hz]; exact okd (by decide +kernel), fun h => ?_⟩
          have := (wz "otherone" (by rw [← h, cz1]; exact List.mem_cons_self ..)).2.2
          exact absurd this (by decide +kernel)
        · have okz : ∀ z ∈ (["a", "stranger"] : List Str), okW z := fun z hz => by
            simp only [List.mem_cons, List.not_mem_nil, or_false] at hz
            rcases hz with rfl | rfl
            · exact okd (by decide +kernel)
            · exact okd (by decide +kernel)
          refine .inl ⟨x2, c5, rfl, ca2O, by rw [cz2]; exact okz, fun h => ?_⟩
          have := (wz "stranger" (by rw [← h, cz2]; exact List.mem_cons_of_mem _ (List.mem_cons_self ..))).2.2
          exact absurd this (by decide +kernel)
      show Exists _
      refine for_list (K := K) (a := lo) (xs := [.non, .int 5, .str "a", .ref d1, .ref l1, .ref x1, .ref x2]) (fun i sg' H' => (∃ v5, sg' = [some (.ref p), some (.ref f), some (.ref l), some (.int n), some (.int m), v5, some (.ref xg), some (.ref dm), none, none, none]) ∧ Same HO_ H') ⟨⟨_, rfl⟩, .refl _⟩ (fun i sg' H' _ ⟨_, s⟩ => SqL.of (s _ _ eO)) ?_ ?_
      · rintro i y sg' H' hy ⟨⟨v5, rfl⟩, s'⟩
        have by_ := (bad y (List.mem_of_getElem? hy)).keep s'
        have s0 := (sA.trans sAO).trans s'
        refine ⟨_, rfl, _, rfl, _, rfl, _, rfl, _, rfl, use_te (y := .non) (tx := "None") (pl.same s0) (fl.same s0) e00 c6 k5 (.inr ⟨by rw [hz]; exact mr, .inr (.inr ⟨n, e, rfl, he, .inl ⟨rfl, by rw [rl]; exact by_, rfl, rfl⟩⟩)⟩) (fun H4 s4 => .non) fun l4 H4 nl4 s4 e4 => ?_⟩
        refine ⟨by show 3 ≤ sizeLine; decide, fun l5 nl5 => ask_row (okd (by decide +kernel)) (okd (by decide +kernel)) (same_new nl5 _ _ e4) upd_same ⟨_, rfl, iteF ⟨⟨_, rfl⟩, s'.trans (s4.trans (same_new nl5))⟩⟩⟩
      · rintro sg' H' ⟨⟨v5, rfl⟩, s'⟩
        exact ⟨⟨_, rfl⟩, sAO.trans s'⟩
    rintro _ HB ⟨⟨vB5, rfl⟩, sB⟩
    have sHB := sA.trans sB
    have gB := gd.keep sB
    have b41 : (5 * 10 ^ 31 : Int) + 1 ≤ 10 ^ 40 := by decide +kernel
    have bL : LM = 10 ^ 40 := by decide +kernel
    refine ⟨fun σ' H' => (∃ v5 v8, σ' = [some (.ref p), some (.ref f), some (.ref l), some (.int n), some (.int m), v5, some (.ref xg), some (.ref dm), v8, none, none]) ∧ Same HB H', ?_, ?_⟩
    · refine for_gvl (H0 := HB) (σ := [some (.ref p), some (.ref f), some (.ref l), some (.int n), some (.int m), vB5, some (.ref xg), some (.ref dm), none, none, none]) (valsM (K := K) (m := m) rfl ⟨mB.1, by omega⟩) (by simp) fun lo vs H1 s1 el1 pv => ⟨fun i sg' H' => (∃ v5 v8, sg' = [some (.ref p), some (.ref f), some (.ref l), some (.int n), some (.int m), v5, some (.ref xg), some (.ref dm), v8, none, none]) ∧ Same H1 H', ⟨⟨_, _, rfl⟩, .refl _⟩, (fun i sg' H' ⟨_, e⟩ => LamX.ExtN.of e), ?_, ?_⟩
      · rintro i y sg' H' hy ⟨⟨v5, v8, rfl⟩, s'⟩
        have p1 : PM K m (noT H1) y := par_rep pv y (List.mem_of_getElem? hy)
        obtain ⟨tx, oktx, shN⟩ := p1.2
        have bad := (p1.1.keep noT_same).keep s'
        have s0 := sHB.trans (s1.trans s')
        have g0 := gB.keep (s1.trans s')
        refine ⟨_, rfl, _, rfl, _, rfl, _, rfl, _, rfl, use_te (y := y) (tx := tx) (pl.same s0) (fl.same s0) e00 c6 k5 (.inr ⟨by rw [hz]; exact mr, .inr (.inr ⟨n, e, rfl, he, .inr (.inl ⟨rfl, by rw [rl]; exact g0, by rw [em]; exact bad, rfl, rfl⟩)⟩)⟩) (fun H4 s4 => shN H4 (noT_same.trans (s'.trans s4))) fun l4 H4 nl4 s4 e4 => ?_⟩
        refine ⟨_, rfl, y, tx, rfl, shN _ (noT_same.trans (s'.trans s4)), by show 3 ≤ sizeLine; decide, fun l5 nl5 => ask_row (okd (by decide +kernel)) oktx (same_new nl5 _ _ e4) upd_same ⟨_, rfl, iteF ?_⟩⟩
        have s5 := s4.trans (same_new (o := .lst (rowF "moment" tx true)) nl5)
        have s5 : Same H' (upd H4 l5 (.lst [.str "moment", .str tx, .bl true])) := s5
        generalize upd H4 l5 (.lst [.str "moment", .str tx, .bl true]) = H5 at *
        have s05 := s0.trans s5
        by_cases n0 : n = 0
        · subst n0
          refine ⟨_, rfl, _, rfl, _, rfl, _, rfl, use_te (y := .int 0) (tx := "0") (pl.same s05) (fl.same s05) e00 c6 k5 (.inr ⟨by rw [hz]; exact mr, .inr (.inl ⟨.inr rfl, rfl, rfl, rfl⟩)⟩) (fun H4 s4 => .int 0 (by decide +kernel)) fun l6 H6 nl6 s6 e6 => ?_⟩
          refine ⟨_, rfl, _, _, rfl, rfl, _, rfl, iteFe (by rfl) (iteF ?_)⟩
          exact ⟨⟨_, _, rfl⟩, s'.trans (s5.trans s6)⟩
        · refine ⟨_, rfl, _, rfl, _, rfl, _, rfl, use_te (y := y) (tx := tx) (pl.same s05) (fl.same s05) e00 c6 k5 (.inr ⟨by rw [hz]; exact mr, .inr (.inr ⟨n, e, rfl, he, .inr (.inr (.inl ⟨rfl, by omega, by rw [em]; exact bad.keep s5, rfl, rfl⟩))⟩)⟩) (fun H4 s4 => shN H4 (noT_same.trans ((s'.trans s5).trans s4))) fun l6 H6 nl6 s6 e6 => ?_⟩
          refine ⟨_, rfl, _, _, rfl, rfl, _, rfl, iteTe (decide_eq_true (show (0 : Int) < n by omega)) ⟨_, rfl, _, rfl, y, tx, rfl, shN _ (noT_same.trans ((s'.trans s5).trans s6)), by show 3 ≤ sizeLine; decide, fun l7 nl7 => ask_row (okd (by decide +kernel)) oktx (same_new nl7 _ _ e6) upd_same ⟨_, rfl, iteF ?_⟩⟩⟩
          exact ⟨⟨_, _, rfl⟩, s'.trans (s5.trans (s6.trans (same_new nl7)))⟩
      · rintro sg' H' ⟨⟨v5, v8, rfl⟩, s'⟩
        exact ⟨⟨_, _, rfl⟩, s1.trans s'⟩
    rintro _ HC ⟨⟨vC5, vC8, rfl⟩, sC⟩
    have sHC := sHB.trans sC
    have gC := gB.keep sC
    have p40 : (10 : Int) ^ (40 : Int).toNat = 10 ^ 40 := by decide +kernel
    refine ⟨fun σ' H' => (∃ v9, σ' = [some (.ref p), some (.ref f), some (.ref l), some (.int n), some (.int m), vC5, some (.ref xg), some (.ref dm), vC8, v9, none]) ∧ Same HC H', ?_, ?_⟩
    · by_cases n0 : n = 0
      · refine ⟨_, rfl, _, _, rfl, rfl, _, rfl, iteFe (decide_eq_false (show ¬ (0 : Int) < n by omega)) ?_⟩
        exact ⟨⟨_, rfl⟩, .refl _⟩
      · refine ⟨_, rfl, _, _, rfl, rfl, _, rfl, iteTe (decide_eq_true (show (0 : Int) < n by omega)) ?_⟩
        by_cases n6 : n = 6
        · refine ⟨_, rfl, rfl, _, rfl, iteTe (decide_eq_true (by rw [n6]; rfl)) ⟨by show 3 ≤ sizeLine; decide, fun ld nld => ?_⟩⟩
          have eD : upd HC ld (.lst (rowF "limit" "7" true)) ld = some (.lst (rowF "limit" "7" true)) := upd_same
          have s1 := same_new (o := .lst (rowF "limit" "7" true)) nld
          have go : ∀ HZ, HZ = upd HC ld (.lst (rowF "limit" "7" true)) → upd HC ld (.lst [.str "limit", .str "7", .bl true]) = HZ := fun _ e => e.symm
          have go := go _ rfl
          rw [go]
          generalize upd HC ld (.lst (rowF "limit" "7" true)) = H1 at *
          have s01 := sHC.trans s1
          refine ⟨_, rfl, _, rfl, _, rfl, _, rfl, _, _, rfl, rfl, use_te (y := .int 7) (tx := "7") (pl.same s01) (fl.same s01) e00 c6 k5 (.inr ⟨by rw [hz]; exact mr, .inr (.inr ⟨n, e, rfl, he, .inr (.inr (.inr ⟨rfl, n6, ⟨m + 1, rfl, by omega, by rw [bL]; omega⟩, rfl, rfl⟩))⟩)⟩) (fun H4 s4 => .int 7 (by decide +kernel)) fun l4 H4 nl4 s4 e4 => ⟨_, rfl, ask_row (okd (by decide +kernel)) (okd (by decide +kernel)) e4 (s4 _ _ eD) ⟨_, rfl, iteF ?_⟩⟩⟩
          have s04 := s01.trans s4
          refine ⟨_, rfl, _, rfl, _, rfl, _, _, rfl, rfl, ⟨by decide, by decide, by decide⟩, use_te (y := .int 7) (tx := "7") (pl.same s04) (fl.same s04) e00 c6 k5 (.inr ⟨by rw [hz]; exact mr, .inr (.inr ⟨n, e, rfl, he, .inr (.inr (.inr ⟨rfl, n6, ⟨_, rfl, by rw [p40]; omega, by rw [bL, p40]; omega⟩, rfl, rfl⟩))⟩)⟩) (fun H4 s4 => .int 7 (by decide +kernel)) fun l5 H5 nl5 s5 e5 => ⟨_, rfl, ask_row (okd (by decide +kernel)) (okd (by decide +kernel)) e5 (s5 _ _ (s4 _ _ eD)) ⟨_, rfl, iteF ?_⟩⟩⟩
          exact ⟨⟨_, rfl⟩, (s1.trans s4).trans s5⟩
        · have nlt : n < es.length := (List.getElem?_eq_some_iff.mp he).1
          refine ⟨_, rfl, rfl, _, rfl, iteFe (decide_eq_false fun z => by have := V.int.inj z; omega) ?_⟩
          refine ⟨_, rfl, _, rfl, _, rfl, _, rfl, _, _, rfl, rfl, use_teG (pl.same sHC) (fl.same sHC) e00 c6 k5 ⟨by rw [hz]; exact mr, n, e, m + 1, rfl, he, rfl, by omega, by rw [bL]; omega, .inr ⟨rfl, by omega, by omega⟩⟩ fun H4 s4 => ⟨_, rfl, ask_none ⟨_, rfl, iteF ?_⟩⟩⟩
          have s04 := sHC.trans s4
          refine ⟨_, rfl, _, rfl, _, rfl, _, _, rfl, rfl, ⟨by decide, by decide, by decide⟩, use_teG (pl.same s04) (fl.same s04) e00 c6 k5 ⟨by rw [hz]; exact mr, n, e, _, rfl, he, rfl, by rw [p40]; omega, by rw [bL, p40]; omega, .inr ⟨rfl, by omega, by omega⟩⟩ fun H5 s5 => ⟨_, rfl, ask_none ⟨_, rfl, iteF ?_⟩⟩⟩
          exact ⟨⟨_, rfl⟩, s4.trans s5⟩
    rintro _ HD ⟨⟨vD9, rfl⟩, sD⟩
    have sHD := sHC.trans sD
    have gD := gC.keep sD
    refine ⟨_, rfl, _, _, rfl, rfl, _, _, rfl, rfl, ⟨by decide, by decide, by decide⟩, by show 2 ≤ sizeLine; decide, fun lo nlo => ⟨lo, rfl, ⟨_, SqL.of upd_same⟩, ?_⟩⟩
    have s1 := same_new (o := .lst [.int (m + 1), .int (10 ^ (40 : Int).toNat)]) nlo
    have el1 : upd HD lo (.lst [.int (m + 1), .int (10 ^ (40 : Int).toNat)]) lo = some (.lst [.int (m + 1), .int (10 ^ (40 : Int).toNat)]) := upd_same
    generalize upd HD lo (.lst [.int (m + 1), .int (10 ^ (40 : Int).toNat)]) = H1 at *
    show Exists _
    refine for_list (K := K) (a := lo) (xs := [.int (m + 1), .int (10 ^ (40 : Int).toNat)]) (fun i sg' H' => (∃ v5, sg' = [some (.ref p), some (.ref f), some (.ref l), some (.int n), some (.int m), v5, some (.ref xg), some (.ref dm), vC8, vD9, none]) ∧ Same H1 H') ⟨⟨_, rfl⟩, .refl _⟩ (fun i sg' H' _ ⟨_, s⟩ => SqL.of (s _ _ el1)) ?_ ?_
    · rintro i y sg' H' hy ⟨⟨v5, rfl⟩, s'⟩
      obtain ⟨m', rfl, lt, le⟩ : ∃ m' : Int, y = .int m' ∧ m < m' ∧ m' ≤ LM := by
        have mm := List.mem_of_getElem? hy
        simp only [List.mem_cons, List.not_mem_nil, or_false] at mm
        rcases mm with rfl | rfl
        · exact ⟨_, rfl, by omega, by rw [bL]; omega⟩
        · exact ⟨_, rfl, by rw [p40]; omega, by rw [bL, p40]; omega⟩
      have s0 := sHD.trans (s1.trans s')
      refine ⟨_, rfl, _, rfl, _, rfl, _, rfl, _, rfl, use_teG (pl.same s0) (fl.same s0) e00 c6 k5 ⟨by rw [hz]; exact mr, n, e, m', rfl, he, rfl, by omega, le, .inl ⟨rfl, by rw [rl]; exact gD.keep (s1.trans s'), fun x c => cb m' x c lt le⟩⟩ fun H4 s4 => ?_⟩
      unfold tC
      refine ask_none ?_
      exact ⟨_, rfl, iteF ⟨⟨_, rfl⟩, s'.trans s4⟩⟩
    · rintro sg' H' ⟨⟨v5, rfl⟩, s'⟩
      exact kQ _ (sHD.trans (s1.trans s'))
end
end K54
namespace K54
open PySem PySem.Spec PyProof.Rows L2 Jg
local macro_rules | `(tactic| walk_at "rd1") => `(tactic| (first
  | refine ⟨_, rfl, ?_⟩
  | refine ⟨_, _, rfl, rfl, ?_⟩
  | refine ⟨_, _, rfl, ?_⟩
  | refine ⟨rfl, ?_⟩
  | (refine ⟨show (0 : Int) < _ by omega, ?_⟩)
  | (refine ⟨Or.inl ⟨by omega, by omega⟩, ?_⟩)
  | (refine ⟨Or.inr ⟨by omega, by omega⟩, ?_⟩)
  | (refine ⟨(⟨by decide, by decide, by decide⟩ : CPow _ _), ?_⟩)
  | refine Or.inl ⟨_, rfl, ?_⟩
  | refine Or.inr ⟨_, rfl, ?_⟩
  | fail "rd"))
local macro_rules | `(tactic| walk_at "rd") => `(tactic| repeat' walk_at "rd1")
/-! ### plans that are the same -/
open K54C (Td TdAt TdsAt TdG Use CtIs Ww Wd StA SameB spDr ctB tri Ct)
theorem TdsAt.ds {parts keys hands : List Str} {H : Hp} : ∀ {qs : List Addr} {ds : List Td}, TdsAt parts keys hands H qs ds → ∀ d ∈ ds, TdG parts keys hands d
  | _, _, .nil, _, h => nomatch h
  | _, _, .cons _ g r, d, h => by
    rcases List.mem_cons.mp h with rfl | h
    · exact g
    · exact TdsAt.ds r d h
theorem row_uniq {rs : List Use} (nd : (rs.map (·.z)).Nodup) {a b : Use} (ha : a ∈ rs) (hb : b ∈ rs) (e : a.z = b.z) : a = b := by
  obtain ⟨i, hi⟩ := List.getElem?_of_mem ha
  obtain ⟨j, hj⟩ := List.getElem?_of_mem hb
  obtain ⟨l1, q1⟩ := List.getElem?_eq_some_iff.mp hi
  obtain ⟨l2, q2⟩ := List.getElem?_eq_some_iff.mp hj
  have k1 : (rs.map (·.z))[i]'(by rw [List.length_map]; exact l1) = b.z := by rw [List.getElem_map, q1]; exact e
  have k2 : (rs.map (·.z))[j]'(by rw [List.length_map]; exact l2) = b.z := by rw [List.getElem_map, q2]
  have ij := (List.getElem_inj nd (h₀ := by rw [List.length_map]; exact l1) (h₁ := by rw [List.length_map]; exact l2)).mp (k1.trans k2.symm)
  subst ij
  rw [hi] at hj
  exact Option.some.inj hj
theorem ctB_of {d : Td} {c e : Ct} (nd : (d.rows.map (·.z)).Nodup) (h1 : CtIs d c) (h2 : CtIs d e) : ctB c e = true := by
  have lz : c.us.map (·.z) = e.us.map (·.z) := h1.zs.trans h2.zs.symm
  have ll : c.us.length = e.us.length := by
    have := congrArg List.length lz
    rwa [List.length_map, List.length_map] at this
  have te : c.us.map tri = e.us.map tri := by
    refine List.ext_getElem? fun i => ?_
    rw [List.getElem?_map, List.getElem?_map]
    cases c1 : c.us[i]? with
    | none => rw [List.getElem?_eq_none (by have := List.getElem?_eq_none_iff.mp c1; omega)]
    | some r =>
      obtain ⟨r2, c2⟩ : ∃ r2, e.us[i]? = some r2 := ⟨_, List.getElem?_eq_getElem (by have := (List.getElem?_eq_some_iff.mp c1).1; omega)⟩
      have z : r.z = r2.z := by
        have := congrArg (fun l => l[i]?) lz
        simp only [List.getElem?_map, c1, c2] at this
        exact Option.some.inj this
      obtain ⟨q, hq, a1, a2, a3⟩ := h1.us r (List.mem_of_getElem? c1)
      obtain ⟨q2, hq2, b1, b2, b3⟩ := h2.us r2 (List.mem_of_getElem? c2)
      have qq : q = q2 := row_uniq nd hq hq2 (by rw [a1, b1, z])
      subst qq
      rw [c2]
      show some (tri r) = some (tri r2)
      unfold tri
      rw [z, a3, b3, ← a2, ← b2]
  unfold ctB
  rw [decide_eq_true te, decide_eq_true (h1.vo.trans h2.vo.symm), decide_eq_true (h1.ne.trans h2.ne.symm), decide_eq_true (h1.si.trans h2.si.symm)]; rfl
theorem eqEd_of {es es2 : List Ed} {ds : List Td} {ms : List Int} {parts keys hands : List Str} (me : mos es = ms) (me2 : mos es2 = ms) (tg : ∀ d ∈ ds, TdG parts keys hands d) (pn : parts.Nodup) (c1 : ∀ (i : Nat) (e : Ed), es[i]? = some e → ∃ d, ds[i]? = some d ∧ CtIs d e.c) (c2 : ∀ (i : Nat) (e : Ed), es2[i]? = some e → ∃ d, ds[i]? = some d ∧ CtIs d e.c) : EqEd es es2 := by
  have e : mos es = mos es2 := me.trans me2.symm
  unfold mos at e
  refine ⟨by have := congrArg List.length e; rwa [List.length_map, List.length_map] at this, fun i a b ha hb => ⟨?_, ?_⟩⟩
  · have := congrArg (fun l => l[i]?) e
    simp only [List.getElem?_map, ha, hb] at this
    exact Option.some.inj this
  · obtain ⟨d, hd, x⟩ := c1 i a ha
    obtain ⟨d2, hd2, y⟩ := c2 i b hb
    rw [hd] at hd2
    cases hd2
    exact ctB_of (by rw [(tg d (List.mem_of_getElem? hd)).zs]; exact pn) x y
theorem use_peq {PC C p p2 : Addr} {es es2 : List Ed} {H : Hp} {Q : VK} {E : XK} (pl : PlAt PC C H p es) (pl2 : PlAt PC C H p2 es2) (e : EqEd es es2) (k : ∀ H', Same H H' → Q (.bl true) H') : spPEq PC C [.ref p, .ref p2] H Q E := by
  unfold spPEq
  exact ⟨p, p2, es, es2, rfl, pl, pl2, e, k⟩
theorem missR_new {cl : List Cl} {zs : List Str} {q : Cl} (h : missR cl zs = none) (n : q.z ∉ zs) : missR (cl ++ [q]) zs = some q.z :=
  missR_at (i := cl.length) (by rw [List.getElem?_append_right (Nat.le_refl _), Nat.sub_self]; rfl) (fun p hp => by
    rw [List.take_append_of_le_length (Nat.le_refl _), List.take_length] at hp
    exact missR_all h p hp) n
theorem abc_shw {K : PySem.W.Frag} {H : Hp} : Shw K H (.str "abcdefgh") "'abcdefgh'" := by
  have e : reprText ("abcdefgh" : Str) = "'abcdefgh'" := by decide +kernel
  have z : Shw K H (.str "abcdefgh") (reprText "abcdefgh") := .str "abcdefgh" (by decide +kernel)
  rw [e] at z; exact z
/-! ### the law -/
open K54C (Td TdAt TdsAt TdG Use CtIs Ww Wd StA SameB spDr Ct CAt)
def spLaw (K : PySem.W.Frag) : Sp := fun vs H Q _ => ∃ (a : Addr) (ns : List Int), vs = [.ref a] ∧ SqL K H a (ns.map V.int) ∧ ns.length ≤ 63 ∧ ∀ H', Q (.bl true) H'
theorem use_lflA {FC KC lk lc : Addr} {kr : List KRow} {cl : List Cl} {parts : List Str} {H : Hp} {Q : VK} {E : XK} (ek : H lk = some (.lst (kr.map fun k => V.ref k.t))) (ka : ∀ k ∈ kr, KrAt H k) (ko : KrOk kr) (k4 : kr.length ≤ 4)
    (ec : H lc = some (.lst (cl.map fun q => V.ref q.t))) (ca : ∀ q ∈ cl, ClAt H q) (co : ClOk parts (kr.map (·.z)) cl) (c5 : cl.length ≤ 5) (pw : ∀ z ∈ parts, K54C.Wd z)
    (k : ∀ (f d c : Addr) (ks : K54F.Ks) (cl' : List Cl) (H' : Hp), H c = none → Same H H' → K54F.FltAt FC KC H' f d c ks (cl'.map fun q => V.ref q.t) → (∀ q ∈ cl', ClAt H' q) → FlI kr cl ks cl' → Q (.ref f) H') : spLFleet FC KC [.ref lk, .ref lc] H Q E := by
  unfold spLFleet
  exact ⟨lk, lc, kr, cl, parts, rfl, ek, ka, ko, k4, ec, ca, co, c5, pw, fun f d c ks cl' H' nf nd nc s fa cA ke ce => k f d c ks cl' H' nc s fa cA ⟨⟨ke, ko⟩, ce⟩⟩
section
variable {P : Program} {w : World} {K : PySem.W.Frag} {mg : Str → Option Value} {base : Heap} {C PC FC KC CU CE CA CM CO : Addr}
abbrev s_law : Stmt := top 106
theorem sc_law : FnScope ["script", "k", "stream", "number", "way", "kinds", "calls", "moments", "tolds", "plan", "fleet", "parts", "moment"] ["script"] (defScope s_law) := ⟨rfl, rfl, rfl, by decide +kernel, rfl, by decide +kernel, by decide +kernel⟩
theorem body_law (T : TxP K mg) (TF : K54F.FTx K mg FC) (PT : PTx K mg PC) (PE2 : PEx K PC) (J : K54C.CTx K mg C) (P_roles : Prp P w K mg base CX0 1 C "roles" (K54C.spLst C fun c => c.us.map (·.z))) (M_co : Met P w K mg base (L2.CX P w) 5 PC "contents_of" (spPOf K PC C CE fun e => .ref e.x)) (G_law_stream : Cal P w K mg base CX0 1 "_law_stream" (K54C.spStream K)) (G_law_small : Cal P w K mg base CX0 5 "_law_small" spSmall) (G_law_plan : Cal P w K mg base CX0 10 "_law_plan" (spLPlan PC C)) (G_law_fleet : Cal P w K mg base CX0 9 "_law_fleet" (spLFleet FC KC))
    (G_law_told_error : CalG P w K mg base CX0 16 "_law_told_error" (spTe K PC C FC KC)) (G_law_numbers_right : CalG P w K mg base CX0 17 "_law_numbers_right" (spNum PC C FC KC)) (G_law_arguments_right : CalG P w K mg base CX0 17 "_law_arguments_right" (spArg PC C FC KC)) (M_peq : Met P w K mg base CX0 4 PC "__eq__" (spPEq PC C)) (M_add0 : MetW P w K mg base (L2.CX P w) 5 FC "add_call" 4 [] (fun vs zs => vs ++ [.int 0] ++ zs) (K54F.spAdd K FC KC CA CU CM CO))
    (ff : Addr) (cdv : Value) (A : Around) (outer : List Env) (s : Shared) (H : Hp) (vs : List V) (Q : VK) (E : XK) (g : (A.deeper (envOfC "law" (defScope s_law) s.heap.objs.size ff cdv)).guards = some []) (hr : Room 18 (A.deeper (envOfC "law" (defScope s_law) s.heap.objs.size ff cdv))) (h : spLaw K vs H Q E) :
    ∃ t, PSs (cxOf CX0 P w K mg base ["script", "k", "stream", "number", "way", "kinds", "calls", "moments", "tolds", "plan", "fleet", "parts", "moment"] "law" (defScope s_law) ff cdv A outer s H E).nox (defBody s_law) t ∧ t { nx := fun _ H' => Q .non H', rt := Q } (start ["script", "k", "stream", "number", "way", "kinds", "calls", "moments", "tolds", "plan", "fleet", "parts", "moment"] vs) H := by
  obtain ⟨a, ns, rfl, hS, hl, k⟩ := h
  have hu : (A.deeper (envOfC "law" (defScope s_law) s.heap.objs.size ff cdv)).units + 64 < cLine := hr.units
  refine ⟨_, (pss_cons (ps_for PassesOwn.never rfl (pi_range1 (by rfl) T.b_range (pa_cons (pe_callB (call_max2 rfl) (by rfl) T.b_max (by decide +kernel) (pa_cons pe_int (pa_cons (pe_callB (call_min2 rfl) (by rfl) T.b_min (by decide +kernel) (pa_cons pe_int (pa_cons (pe_callB call_len_seq (by rfl) T.b_len (by decide +kernel) (pa_cons (pv 0) pa_nil)) pa_nil))) pa_nil))) pa_nil)) (pg_name (i := 1) sc_law.nd rfl (Or.inl rfl)) (pss_cons (ps_set (i := 2) sc_law.nd rfl (Or.inl rfl) (pe_c G_law_stream hr (by decide) rfl (pa_cons (pv 0) (pa_cons (pv 1) pa_nil))))
      (C8.pss_cut (ps_asg (pe_c G_law_small hr (by decide) rfl (pa_cons (pv 2) (pa_cons pe_int (pa_cons pe_int pa_nil)))) (pg_lst rfl (pgs_cons (pg_name (i := 5) sc_law.nd rfl (Or.inl rfl)) (pgs_cons (pg_name (i := 6) sc_law.nd rfl (Or.inl rfl)) (pgs_cons (pg_name (i := 7) sc_law.nd rfl (Or.inl rfl)) (pgs_cons (pg_name (i := 8) sc_law.nd rfl (Or.inl rfl)) pgs_nil))))))
      (C8.pss_cut (ps_par (i := 9) (j := 10) (by rfl) sc_law.nd rfl rfl (by decide) rfl rfl (pa_cons (pe_c G_law_plan hr (by decide) rfl (pa_cons (pv 7) (pa_cons (pv 8) pa_nil))) (pa_cons (pe_c G_law_fleet hr (by decide) rfl (pa_cons (pv 5) (pa_cons (pv 6) pa_nil))) pa_nil)) (by rfl))
      (pss_cons (ps_if (pt_not (pt_val (pe_cG G_law_numbers_right g hr (by decide) rfl (pa_cons (pv 9) (pa_cons (pv 10) (pa_cons (pe_callB call_len_seq (by rfl) T.b_len (by decide +kernel) (pa_cons (pv 7) pa_nil)) pa_nil)))))) (pss_one (ps_ret pe_bl)) pss_nil)
      (C8.pss_cut (ps_for PassesOwn.never rfl (pi_range1 (by rfl) T.b_range (pa_cons (pe_callB call_len_seq (by rfl) T.b_len (by decide +kernel) (pa_cons (pv 7) pa_nil)) pa_nil)) (pg_name (i := 3) sc_law.nd rfl (Or.inl rfl)) (pss_cons (ps_par (i := 11) (j := 12) (by rfl) sc_law.nd rfl rfl (by decide) rfl rfl (pa_cons (pe_p P_roles J.cl hr (by decide) (pe_mS M_co PT.cl takes0 hr (by decide) (pv 9) (pa_cons pe_int pa_nil))) (pa_cons (pe_ix (r := rIxL K) ix_list (pv 7) (pv 3) (fun _ _ => rfl)) pa_nil)) (by rfl))
      (pss_one (ps_if (pt_not (pt_val (pe_cG G_law_arguments_right g hr (by decide) rfl (pa_cons (pv 9) (pa_cons (pv 10) (pa_cons (pv 11) (pa_cons (pv 3) (pa_cons (pv 12) pa_nil)))))))) (pss_one (ps_ret pe_bl)) pss_nil))))
      (C8.pss_cut (ps_if (pt_cmpR op_lt (pe_callB call_len_seq (by rfl) T.b_len (by decide +kernel) (pa_cons (pv 6) pa_nil)) pe_int (nomark _)) (pss_one (ps_expr (pe_mKS M_add0 TF.cl takes0 hr (by decide) (pv 10) (pa_cons pe_str (pa_cons (pe_ix (r := rIxT K) ix_tup (pe_ix (r := rIxL K) ix_list (pv 5) pe_int (fun _ _ => rfl)) pe_int (fun _ _ => rfl)) (pa_cons (pe_ix (r := rIxT K) ix_tup (pe_ix (r := rIxL K) ix_list (pv 5) pe_int (fun _ _ => rfl)) pe_int (fun _ _ => rfl)) pa_nil))) pk_nil))) pss_nil)
      (C8.pss_cut (ps_for PassesOwn.never rfl (pi_list (pe_lst (pa_cons pe_int (pa_cons pe_int (pa_cons pe_int (pa_cons pe_int pa_nil)))))) (pg_name (i := 4) sc_law.nd rfl (Or.inl rfl)) (pss_one (ps_if (pt_cmpR (op_neD hu) (pe_cG G_law_told_error g hr (by decide) rfl (pa_cons (pv 4) (pa_cons (pv 9) (pa_cons (pv 10) (pa_cons pe_non (pa_cons pe_non (pa_cons pe_non pa_nil))))))) (pe_lst (pa_cons pe_str (pa_cons pe_str (pa_cons pe_bl pa_nil)))) (nomark _)) (pss_one (ps_ret pe_bl)) pss_nil)))
      (pss_one (ps_if (pt_cmpR (op_ne_c M_peq PE2.ne PE2.mro hr (by decide)) (pv 9) (pe_c G_law_plan hr (by decide) rfl (pa_cons (pv 7) (pa_cons (pv 8) pa_nil))) (nomark _)) (pss_one (ps_ret pe_bl)) pss_nil))))))))))
      (pss_one (ps_ret pe_bl))), ?_⟩
  refine ⟨_, rfl, a, _, rfl, .inl hS, _, _, rfl, _, _, rfl, _, rfl, by split <;> split <;> omega, by rw [List.length_map]; split <;> split <;> omega, ?_⟩
  have tn : ∀ i : Nat, i < (if (if ((ns.map V.int).length : Int) < 8 then ((ns.map V.int).length : Int) else 8) > 1 then (if ((ns.map V.int).length : Int) < 8 then ((ns.map V.int).length : Int) else 8) else 1).toNat → i ≤ 1000 := by
    intro i hi
    rw [List.length_map] at hi
    split at hi <;> split at hi <;> omega
  show Exists _
  refine for_range (lo := 0) (fun i sg H' => ∃ v1 v2 v3 v4 v5 v6 v7 v8 v9 v10 v11 v12 : Option V, sg = [some (.ref a), v1, v2, v3, v4, v5, v6, v7, v8, v9, v10, v11, v12] ∧ Same H H') ⟨_, _, _, _, _, _, _, _, _, _, _, _, rfl, .refl H⟩ ?_ ?_
  · rintro i sg H1 hi ⟨v1, v2, v3, v4, v5, v6, v7, v8, v9, v10, v11, v12, rfl, s1⟩
    have hk := tn i hi
    clear tn hi
    have ei : (0 : Int) + (i : Nat) = ((i : Nat) : Int) := by omega
    rw [ei]
    refine ⟨_, rfl, _, rfl, a, ns, i, rfl, s1.seq hS, hk, fun p x y np hx => ?_⟩
    have sA : Same H1 (upd H1 p (.lst [.int x, .int y])) := same_new np
    have stA : StA (upd H1 p (.lst [.int x, .int y])) p := ⟨x, y, upd_same, hx⟩
    generalize upd H1 p (.lst [.int x, .int y]) = HA at *
    refine ⟨fun σ' H' => ∃ L lk lc lm lt kr cd ms qs ds parts keys hands, σ' = [some (.ref a), some (.int i), some (.ref p), v3, v4, some (.ref lk), some (.ref lc), some (.ref lm), some (.ref lt), v9, v10, v11, v12] ∧ Lrg p L H' lk lc lm lt kr cd ms qs ds parts keys hands ∧ Same H1 H', ?_, ?_⟩
    · refine ⟨_, rfl, use_small stA (by decide) (by decide) (by decide) (by decide) fun L lk lc lm lt kr cd ms qs ds parts keys hands HB lg m6 sB => ?_⟩
      exact ⟨L, _, rfl, SqL.of lg.e, rfl, _, _, rfl, _, _, rfl, _, _, rfl, _, _, rfl, rfl, L, lk, lc, lm, lt, kr, cd, ms, qs, ds, parts, keys, hands, rfl, lg, SameB.out sA sB np⟩
    clear stA sA
    clear HA
    rintro _ B0 ⟨L, lk, lc, lm, lt, kr, cd, ms, qs, ds, parts, keys, hands, rfl, lg, sB0⟩
    have F := lg.drw.2
    have dr : Drw lk lc lm lt kr cd ms qs ds parts keys hands B0 := ⟨lg.ek, lg.ka, lg.ec, lg.ca, lg.em, lg.et, lg.td⟩
    have ww := F.ww
    have m1 := F.m1
    have m7 := F.m7
    have k4 := F.k4
    have mB := lg.mo.2
    clear lg
    refine ⟨fun σ' H' => ∃ (pl f d c : Addr) (ks : K54F.Ks) (cl : List Cl) (es : List Ed) (B : Hp), σ' = [some (.ref a), some (.int i), some (.ref p), v3, v4, some (.ref lk), some (.ref lc), some (.ref lm), some (.ref lt), some (.ref pl), some (.ref f), v11, v12] ∧ (Same B0 B ∧ B c = none ∧ Same B H') ∧ PlAt PC C B pl es ∧ (K54F.FltAt FC KC H' f d c ks (cl.map fun q => V.ref q.t) ∧ ∀ q ∈ cl, ClAt H' q) ∧ FlI kr cd ks cl ∧ mos es = ms ∧ (∀ (i : Nat) (e : Ed), es[i]? = some e → ∃ d, ds[i]? = some d ∧ CtIs d e.c), ?_, ?_⟩
    · refine ⟨_, rfl, _, rfl, use_lplan dr.em dr.et F.mo dr.td F.ww F.ql F.m1 F.m7 fun pl es H2 npl s2 pl2 me c1 => ?_⟩
      refine ⟨_, rfl, _, rfl, use_lflA (s2 _ _ dr.ek) (fun q hq => s2 _ _ (dr.ka q hq)) F.ko F.k4 (s2 _ _ dr.ec) (fun q hq => s2 _ _ (dr.ca q hq)) F.co (by have := F.c4; omega) ww.pw fun f d c ks cl H3 nc s3 fa ca fi => ?_⟩
      exact ⟨_, _, rfl, pl, f, d, c, ks, cl, es, H2, rfl, ⟨s2, nc, s3⟩, pl2, ⟨fa, ca⟩, fi, me, c1⟩
    rintro _ HA ⟨pl, f, d, c, ks, cl, es, B, rfl, ⟨sBB, bc, sB⟩, plB, ⟨fa, ca⟩, fi, me, c1⟩
    have fl : FlAt FC KC HA f ks cl := ⟨⟨d, c, fa⟩, ca, (alk_wk fi.al).1, (alk_wk fi.al).2.1⟩
    have tgs : ∀ d ∈ ds, TdG parts keys hands d := TdsAt.ds dr.td
    obtain ⟨e0, e00, mr⟩ := fst_of me m1 F.ql c1 (fi.cz F.co) dr.td
    have le : es.length = ms.length := by rw [← me]; unfold mos; rw [List.length_map]
    have cn : cl.length ≤ 4 := by rw [fi.len]; exact F.c4
    have kl : ks.length ≤ 4 := by rw [fi.klen]; exact k4
    have wz : ∀ z ∈ e0.c.us.map (·.z), Wd z := fun z hz => by
      obtain ⟨d0, hd, cis⟩ := c1 0 e0 e00
      rw [cis.zs, (tgs d0 (List.mem_of_getElem? hd)).zs] at hz
      exact ww.pw z (srtW_mem.mp hz)
    have drB := dr.same sBB
    have okN : es.length = ms.length := le
    refine ⟨_, rfl, _, rfl, _, rfl, lm, _, rfl, .inl (SqL.of (sB _ _ drB.em)), ?_⟩
    refine ⟨pl, f, ms.length, es, ks, cl, e0, by rw [List.length_map, List.append_nil], plB.same sB, fl, by omega, by omega, e00, mr, le, fun HC sC => ⟨true, rfl, iteF ?_⟩⟩
    refine ⟨fun σ' H' => (∃ v3 v4 v11 v12 : Option V, σ' = [some (.ref a), some (.int i), some (.ref p), v3, v4, some (.ref lk), some (.ref lc), some (.ref lm), some (.ref lt), some (.ref pl), some (.ref f), v11, v12]) ∧ Same HA H', ?_, ?_⟩
    · refine ⟨_, rfl, lm, _, rfl, .inl (SqL.of ((sB.trans sC) _ _ drB.em)), _, rfl, by rw [List.length_map]; omega, by rw [List.length_map]; omega, ?_⟩
      rw [List.length_map]
      refine for_range (lo := 0) (fun n σ' H' => (∃ v3 v4 v11 v12 : Option V, σ' = [some (.ref a), some (.int i), some (.ref p), v3, v4, some (.ref lk), some (.ref lc), some (.ref lm), some (.ref lt), some (.ref pl), some (.ref f), v11, v12]) ∧ Same HA H') ⟨⟨_, _, _, _, rfl⟩, sC⟩ ?_ ?_
      · clear v3 v4 v11 v12
        rintro n σ' H2 hn ⟨⟨v3, v4, v11, v12, rfl⟩, s2⟩
        have hn : n < ms.length := by omega
        have en : (0 : Int) + (n : Nat) = ((n : Nat) : Int) := by omega
        rw [en]
        obtain ⟨e, he⟩ : ∃ e, es[n]? = some e := ⟨_, List.getElem?_eq_getElem (by omega)⟩
        have em : ms[n]? = some e.m := by rw [← me]; unfold mos; rw [List.getElem?_map, he]; rfl
        have sB2 := sB.trans s2
        have pl2 := plB.same sB2
        obtain ⟨dxp, lp, ep, elp⟩ := id pl2.ex
        have a0 := pl2.eds e0 (List.mem_of_getElem? e00)
        obtain ⟨⟨dx0, _, _, _, ex0, _⟩, _⟩ := id a0.ct
        refine ⟨_, rfl, pl, dxp, _, rfl, ep, get_eno _ (by decide +kernel), pl, es, .int 0, rfl, pl2, .inl ⟨0, e0, rfl, e00, ?_⟩⟩
        refine ⟨e0.x, dx0, _, rfl, ex0, e0.x, e0.c, _, rfl, a0.ct, fun lr nlr => ?_⟩
        have s3 := same_new (o := .lst ((e0.c.us.map (·.z)).map V.str)) nlr
        have el : upd H2 lr (.lst ((e0.c.us.map (·.z)).map V.str)) lr = some (.lst ((e0.c.us.map (·.z)).map V.str)) := upd_same
        generalize upd H2 lr (.lst ((e0.c.us.map (·.z)).map V.str)) = H3 at *
        refine ⟨_, rfl, _, rfl, lm, _, _, .int e.m, rfl, rfl, SqL.of ((sB2.trans s3) _ _ drB.em), atI_nat (j := n) (by rw [List.getElem?_map, em]; rfl), _, _, rfl, ?_⟩
        refine ⟨_, rfl, _, rfl, _, rfl, _, rfl, _, rfl, ?_⟩
        refine ⟨pl, f, lr, n, e.m, es, ks, cl, e0, e, rfl, pl2.same s3, fl.same (s2.trans s3), by omega, by omega, e00, he, rfl, mB _ (List.mem_of_getElem? em), mr, el, wz, fun m' x c lt le => ?_, fun H4 s4 => ⟨true, rfl, iteF ⟨⟨_, _, _, _, rfl⟩, (s2.trans s3).trans s4⟩⟩⟩
        have bL : LM = 10 ^ 40 := by decide +kernel
        have b41 : (10 : Int) ^ 40 ≤ 10 ^ 41 := by decide +kernel
        have b31 : (5 * 10 ^ 31 : Int) ≤ 10 ^ 41 := by decide +kernel
        refine fi.cb F.co fun y hy => ?_
        have hy : y ∈ (mos es).take (n + 1) ++ [m'] := by
          have z : mos (cutE es n m' x c) = (mos es).take (n + 1) ++ [m'] := by unfold mos cutE; rw [List.map_append, List.map_take]; rfl
          rw [z] at hy; exact hy
        have lo : ∀ z ∈ ms, 0 ≤ z := fun z hz => (F.mo.lo z hz).1
        rcases List.mem_append.mp hy with h | h
        · rw [me] at h
          have := List.mem_of_mem_take h
          have z1 := lo y this
          have z2 := mB y this
          omega
        · rw [List.mem_singleton.mp h]
          have z1 := lo e.m (List.mem_of_getElem? em)
          rw [bL] at le
          omega
      · rintro σ' H2 h
        exact h
    clear v3 v4 v11 v12
    rintro _ HD ⟨⟨v3, v4, v11, v12, rfl⟩, sD⟩
    have sBD := sB.trans sD
    have drD := drB.same sBD
    obtain ⟨k0, hk0⟩ : ∃ k0, kr[0]? = some k0 := ⟨_, List.getElem?_eq_getElem F.k1⟩
    have mk0 := List.mem_of_getElem? hk0
    have zk0 : k0.z ∈ ks.map (·.1) := by rw [(alk_wk fi.al).2.2]; exact List.mem_map_of_mem mk0
    have faD := fa.keep sD
    obtain ⟨dxf, ef⟩ := id faD.at_
    have cdl : cd.length ≤ 4 := F.c4
    refine ⟨fun σ' H' => ∃ cl', (∃ v3 v4 v11 v12 : Option V, σ' = [some (.ref a), some (.int i), some (.ref p), v3, v4, some (.ref lk), some (.ref lc), some (.ref lm), some (.ref lt), some (.ref pl), some (.ref f), v11, v12]) ∧ Same B H' ∧ FlAt FC KC H' f ks cl' ∧ missR cl' (e0.c.us.map (·.z)) = some "abcdefgh" ∧ cl'.length ≤ 6, ?_, ?_⟩
    · refine ⟨_, rfl, lc, _, rfl, .inl (SqL.of drD.ec), _, _, rfl, rfl, _, rfl, iteTe (decide_eq_true (by rw [List.length_map]; omega)) ?_⟩
      refine ⟨_, rfl, f, dxf, _, rfl, ef, K54F.get_fno _ _ (by decide +kernel) (by decide +kernel), _, rfl, lk, _, _, .ref k0.t, rfl, rfl, SqL.of drD.ek, atI_nat (j := 0) (by rw [List.getElem?_map, hk0]; rfl), k0.t, _, _, _, rfl, rfl, SqT.of (drD.ka k0 mk0), atI_nat (j := 0) rfl, _, rfl, lk, _, _, .ref k0.t, rfl, rfl, SqL.of drD.ek, atI_nat (j := 0) (by rw [List.getElem?_map, hk0]; rfl), k0.t, _, _, _, rfl, rfl, SqT.of (drD.ka k0 mk0), atI_nat (j := 0) rfl, rfl, rfl, ?_⟩
      refine ⟨f, d, c, _, _, _, _, ks, _, rfl, faD, (alk_wk fi.al).1, .inr ⟨"abcdefgh", rfl, by decide +kernel, by decide +kernel, .inr ⟨k0.z, rfl, zk0, .inr ⟨k0.z, rfl, zk0, .inr ⟨0, rfl, by decide, by decide +kernel, .inr ⟨by rw [List.length_map]; omega, fun t nt => ?_⟩⟩⟩⟩⟩⟩
      have g1 := same_new (o := .tup (K54F.callT "abcdefgh" k0.z k0.z 0)) nt
      have ecal := faD.cal
      have tc : t ≠ c := fun q => by rw [q, ecal] at nt; cases nt
      have off : ∀ (q : Addr) (o : HO), HD q = some o → q ≠ c → upd (upd HD t (.tup (K54F.callT "abcdefgh" k0.z k0.z 0))) c (.lst ((cl.map fun q => V.ref q.t) ++ [.ref t])) q = some o := fun q o e n => by rw [upd_ne n]; exact g1 _ _ e
      refine ⟨cl ++ [⟨t, "abcdefgh", k0.z, k0.z, 0⟩], ⟨_, _, _, _, rfl⟩, same_mut (sBD.trans g1) bc, ⟨⟨d, c, ?_⟩, fun q hq => ?_, (alk_wk fi.al).1, (alk_wk fi.al).2.1⟩, missR_new mr fun m => absurd (wz "abcdefgh" m).2.2 (by decide), by rw [List.length_append]; show cl.length + 1 ≤ 6; omega⟩
      · rw [List.map_append]
        exact fa_off faD off upd_same
      · rcases List.mem_append.mp hq with hq | hq
        · have e1 := sD _ _ (ca q hq)
          exact off _ _ e1 fun z9 => by rw [z9, ecal] at e1; cases e1
        · rw [List.mem_singleton.mp hq]
          show upd _ c _ t = _
          rw [upd_ne tc]; exact upd_same
    clear v3 v4 v11 v12
    rintro _ HE ⟨cl', ⟨v3, v4, v11, v12, rfl⟩, sE, flE, mrE, cE⟩
    refine ⟨fun σ' H' => (∃ v3 v4 v11 v12 : Option V, σ' = [some (.ref a), some (.int i), some (.ref p), v3, v4, some (.ref lk), some (.ref lc), some (.ref lm), some (.ref lt), some (.ref pl), some (.ref f), v11, v12]) ∧ Same B H', ?_, ?_⟩
    · refine ⟨by show 4 ≤ sizeLine; decide, fun lw nlw => ⟨lw, rfl, ⟨_, SqL.of upd_same⟩, ?_⟩⟩
      have sF := same_new (o := .lst [.int 0, .int 1, .int 3, .int 4]) nlw
      have elw : upd HE lw (.lst [.int 0, .int 1, .int 3, .int 4]) lw = some (.lst [.int 0, .int 1, .int 3, .int 4]) := upd_same
      generalize upd HE lw (.lst [.int 0, .int 1, .int 3, .int 4]) = HF at *
      show Exists _
      refine for_list (K := K) (a := lw) (xs := [.int 0, .int 1, .int 3, .int 4]) (fun j σ' H' => (∃ v4 : Option V, σ' = [some (.ref a), some (.int i), some (.ref p), v3, v4, some (.ref lk), some (.ref lc), some (.ref lm), some (.ref lt), some (.ref pl), some (.ref f), v11, v12]) ∧ Same HF H') ⟨⟨_, rfl⟩, .refl _⟩ (fun j _ H' _ ⟨_, s'⟩ => SqL.of (s' _ _ elw)) ?_ ?_
      · clear v4
        rintro j y σ' H4 hy ⟨⟨v4, rfl⟩, s4⟩
        obtain ⟨w0, rfl, hw⟩ : ∃ w0 : Int, y = .int w0 ∧ (w0 = 0 ∨ w0 = 1 ∨ w0 = 3 ∨ w0 = 4) := by
          have m := List.mem_of_getElem? hy
          simp only [List.mem_cons, List.not_mem_nil, or_false] at m
          rcases m with rfl | rfl | rfl | rfl
          · exact ⟨_, rfl, .inl rfl⟩
          · exact ⟨_, rfl, .inr (.inl rfl)⟩
          · exact ⟨_, rfl, .inr (.inr (.inl rfl))⟩
          · exact ⟨_, rfl, .inr (.inr (.inr rfl))⟩
        have s04 := sF.trans s4
        refine ⟨_, rfl, _, rfl, _, rfl, use_te (a := "name") (y := .str "abcdefgh") (tx := "'abcdefgh'") (plB.same (sE.trans s04)) (flE.same s04) e00 cE (by omega) (.inl ⟨hw, "abcdefgh", mrE, rfl, rfl⟩) (fun _ _ => abc_shw) fun l5 H5 nl5 s5 e5 => ?_⟩
        refine ⟨by show 3 ≤ sizeLine; decide, fun l6 nl6 => ask_row (okd (by decide +kernel)) (okd (by decide +kernel)) (same_new nl6 _ _ e5) upd_same ⟨_, rfl, iteF ⟨⟨_, rfl⟩, s4.trans (s5.trans (same_new nl6))⟩⟩⟩
      · rintro σ' H4 ⟨⟨v4, rfl⟩, s4⟩
        exact ⟨⟨_, _, _, _, rfl⟩, sE.trans (sF.trans s4)⟩
    clear v3 v4 v11 v12
    rintro _ HF ⟨⟨v3, v4, v11, v12, rfl⟩, sF⟩
    have drF := drB.same sF
    refine ⟨_, rfl, _, rfl, _, rfl, use_lplan drF.em drF.et F.mo drF.td ww F.ql m1 m7 fun pl2 es2 H6 npl2 s6 plX me2 c2 => ?_⟩
    have plY := plB.same (sF.trans s6)
    obtain ⟨dx, l1, ex, _⟩ := id plY.ex
    obtain ⟨dx2, l2, ex2, _⟩ := id plX.ex
    refine ⟨pl, dx, _, .ref PC, rfl, ex, PE2.ty PT ex2, PE2.oCC, use_peq plY plX (eqEd_of me me2 tgs ww.pn c1 c2) fun H7 s7 => ⟨true, rfl, _, rfl, iteF ?_⟩⟩
    exact ⟨_, _, _, _, _, _, _, _, _, _, _, _, rfl, s1.trans (sB0.trans (sBB.trans ((sF.trans s6).trans s7)))⟩
  · rintro sg H1 ⟨v1, v2, v3, v4, v5, v6, v7, v8, v9, v10, v11, v12, rfl, s1⟩
    exact k _
end
end K54
namespace K54
open PySem PySem.Spec PyProof.Rows L2 Jg
local macro_rules | `(tactic| walk_at "rd1") => `(tactic| (first
  | refine ⟨_, rfl, ?_⟩
  | refine ⟨_, _, rfl, rfl, ?_⟩
  | refine ⟨_, _, rfl, ?_⟩
  | refine ⟨rfl, ?_⟩
  | (refine ⟨show (0 : Int) < _ by omega, ?_⟩)
  | (refine ⟨Or.inl ⟨by omega, by omega⟩, ?_⟩)
  | (refine ⟨Or.inr ⟨by omega, by omega⟩, ?_⟩)
  | (refine ⟨(⟨by decide, by decide, by decide⟩ : CPow _ _), ?_⟩)
  | refine Or.inl ⟨_, rfl, ?_⟩
  | refine Or.inr ⟨_, rfl, ?_⟩
  | fail "rd"))
local macro_rules | `(tactic| walk_at "rd") => `(tactic| repeat' walk_at "rd1")
open K54C (StA SameB Wd hid hid_in hid_get hid_same hid_mut)
theorem LM_eq : LM = 10000000000000000000000000000000000000000 := by decide +kernel
theorem ExnF_of {K : PySem.W.Frag} {h : Heap} {mg : Str → Option Value} {x : Str} {CI : Addr} {qual : Str} {st : Stmt} {f : Str} {B nid iid : String} {line : List Value} {fI : Addr} {oc : Value} {od an : Option Addr} {osl : Array (Option Value)} {kV doc pm cdv ct : Value}
    (X : K.In h) (G : h.Ns mainGlobals mg) (fB : ExcBaseFacts B nid iid line) (sB : StoreFacts B line "object.__setattr__" "object") (aI : PySem.W.nsIn K mainGlobals x = some (some (.ref CI))) (xI : PySem.W.excInitIn K CI line nid = true) (xO : PySem.W.excOver K CI line = true)
    (sa : PySem.W.findIn K (.ref CI) "__setattr__" = some (some (.builtin "object.__setattr__"))) (exC : PySem.W.subIn K (.ref CI) (.type "BaseException") = some true) (tyC : PySem.W.typeIn K (.ref CI) = some (.type "type")) (kC : PySem.W.keepIn K (.ref CI) = true)
    (ga : PySem.W.findIn K (.ref CI) "__getattribute__" = some (some (.builtin "BaseException.__getattribute__"))) (gg : PySem.W.findIn K (.ref CI) "__getattr__" = some none) (hdC : PySem.W.hasDictIn K CI = true)
    (ha : PySem.W.findIn K (.ref CI) "__class__" = some (some (.builtin "object.__class__"))) (hn : PySem.W.specialIn K (.builtin "object.__class__") "__get__" = some (some (.builtin "getset_descriptor.__get__"))) (ht : PySem.W.takesIn K (.builtin "object.__class__") = some true) (hm : PySem.W.mroIn K CI (.type "object") = some true)
    (no : PySem.W.findIn K (.ref CI) f = some none) (iI : PySem.W.findIn K (.ref CI) "__init__" = some (some (.ref fI))) (tI : PySem.W.typeIn K (.ref fI) = some (.type "function"))
    (l : K.lookup fI = some ⟨oc, od, .func (PySem.W.fnOf "__init__" qual (defArgs st) (defBody st) (defScope st) .none kV doc pm an cdv ct), osl⟩) (c : PySem.W.codeIn K cdv qual = true) (k : PySem.W.keepIn K (.ref fI) = true)
    (sC : PySem.W.subIn K (.ref CI) (.ref CI) = some true) : K54F.ExnQ K mg x CI qual st f :=
  ⟨PySem.W.mg_of X G aI, ⟨B, nid, iid, line, fB, sB, xI, xO, hdC, sa, exC, tyC, kC⟩, ⟨⟨ga, gg, exC, hdC⟩, ha, hn, ht, hm⟩, no, ⟨fI, _, fun_mk l c k, iI, tI⟩, PySem.W.exm_ref exC hdC tyC sC⟩
theorem K54C_Txt_of {K : PySem.W.Frag} {mg : Str → Option Value} {h : Heap} {t_g_MOST_ROLES : Tok} {t_g_MOST_ACCEPTED : Tok} {t_g_MOST_VOUCHERS : Tok} {t_g_MOST_NEEDED : Tok} (X : K.In h) (G : h.Ns mainGlobals mg) (h_b_isinstance : PySem.W.nsIn K mainGlobals "isinstance" = some none) (h_b_int : PySem.W.nsIn K mainGlobals "int" = some none) (h_b_bool : PySem.W.nsIn K mainGlobals "bool" = some none) (h_b_str : PySem.W.nsIn K mainGlobals "str" = some none) (h_b_list : PySem.W.nsIn K mainGlobals "list" = some none) (h_b_tuple : PySem.W.nsIn K mainGlobals "tuple" = some none) (h_b_dict : PySem.W.nsIn K mainGlobals "dict" = some none) (h_b_len : PySem.W.nsIn K mainGlobals "len" = some none) (h_b_all : PySem.W.nsIn K mainGlobals "all" = some none) (h_b_any : PySem.W.nsIn K mainGlobals "any" = some none) (h_b_set : PySem.W.nsIn K mainGlobals "set" = some none) (h_b_sorted : PySem.W.nsIn K mainGlobals "sorted" = some none) (h_b_max : PySem.W.nsIn K mainGlobals "max" = some none) (h_b_min : PySem.W.nsIn K mainGlobals "min" = some none) (h_b_range : PySem.W.nsIn K mainGlobals "range" = some none) (h_b_repr : PySem.W.nsIn K mainGlobals "repr" = some none) (h_b_sum : PySem.W.nsIn K mainGlobals "sum" = some none) (h_g_MOST_ROLES : PySem.W.nsIn K mainGlobals "_MOST_ROLES" = some (some (.int 3 t_g_MOST_ROLES))) (h_g_MOST_ACCEPTED : PySem.W.nsIn K mainGlobals "_MOST_ACCEPTED" = some (some (.int 8 t_g_MOST_ACCEPTED))) (h_g_MOST_VOUCHERS : PySem.W.nsIn K mainGlobals "_MOST_VOUCHERS" = some (some (.int 4 t_g_MOST_VOUCHERS))) (h_g_MOST_NEEDED : PySem.W.nsIn K mainGlobals "_MOST_NEEDED" = some (some (.int 4 t_g_MOST_NEEDED))) : K54C.Txt K mg :=
  ⟨PySem.W.mg_none_of X G h_b_isinstance, PySem.W.mg_none_of X G h_b_int, PySem.W.mg_none_of X G h_b_bool, PySem.W.mg_none_of X G h_b_str, PySem.W.mg_none_of X G h_b_list, PySem.W.mg_none_of X G h_b_tuple, PySem.W.mg_none_of X G h_b_dict, PySem.W.mg_none_of X G h_b_len, PySem.W.mg_none_of X G h_b_all, PySem.W.mg_none_of X G h_b_any, PySem.W.mg_none_of X G h_b_set, PySem.W.mg_none_of X G h_b_sorted, PySem.W.mg_none_of X G h_b_max, PySem.W.mg_none_of X G h_b_min, PySem.W.mg_none_of X G h_b_range, PySem.W.mg_none_of X G h_b_repr, PySem.W.mg_none_of X G h_b_sum, ⟨_, PySem.W.mg_of X G h_g_MOST_ROLES, t_g_MOST_ROLES, rfl⟩, ⟨_, PySem.W.mg_of X G h_g_MOST_ACCEPTED, t_g_MOST_ACCEPTED, rfl⟩, ⟨_, PySem.W.mg_of X G h_g_MOST_VOUCHERS, t_g_MOST_VOUCHERS, rfl⟩, ⟨_, PySem.W.mg_of X G h_g_MOST_NEEDED, t_g_MOST_NEEDED, rfl⟩⟩
theorem K54C_CTx_of {K : PySem.W.Frag} {mg : Str → Option Value} {C : Addr} {h : Heap} (X : K.In h) (G : h.Ns mainGlobals mg) (h_cl1 : PySem.W.plainGet K C Str.empty = true) (h_cl2 : PySem.W.hasDictIn K C = true) (h_cl3 : PySem.W.plainOver K C = true) (h_cl4 : PySem.W.findIn K (.ref C) "__setattr__" = some (some (.builtin "object.__setattr__"))) (h_cC : PySem.W.nsIn K mainGlobals "Contents" = some (some (.ref C))) (h_cls_ : PySem.W.findIn K (.ref C) "__class__" = some (some (.builtin "object.__class__"))) (h_cgt : PySem.W.specialIn K (.builtin "object.__class__") "__get__" = some (some (.builtin "getset_descriptor.__get__"))) (h_ctk : PySem.W.takesIn K (.builtin "object.__class__") = some true) (h_mro : PySem.W.mroIn K C (.type "object") = some true) (h_ne : PySem.W.findIn K (.ref C) "__ne__" = some (some (.builtin "object.__ne__"))) (h_kCC : PySem.W.kitOne K (.ref C) (.ref C) = some true) (h_kN : PySem.W.kitOne K (.type "NoneType") (.ref C) = some false) (h_kI : PySem.W.kitOne K (.type "int") (.ref C) = some false) (h_kS : PySem.W.kitOne K (.type "str") (.ref C) = some false) (h_kL : PySem.W.kitOne K (.type "list") (.ref C) = some false) (h_kT : PySem.W.kitOne K (.type "tuple") (.ref C) = some false) (h_kD : PySem.W.kitOne K (.type "dict") (.ref C) = some false) (h_oCC : PySem.W.notFirst K C (.ref C) = true) (h_oN : PySem.W.notFirst K C (.type "NoneType") = true) (h_oI : PySem.W.notFirst K C (.type "int") = true) (h_oS : PySem.W.notFirst K C (.type "str") = true) (h_oL : PySem.W.notFirst K C (.type "list") = true) (h_oT : PySem.W.notFirst K C (.type "tuple") = true) (h_oD : PySem.W.notFirst K C (.type "dict") = true) (h_nu : PySem.W.findIn K (.ref C) "_uses" = some none) (h_nv : PySem.W.findIn K (.ref C) "_vouchers" = some none) (h_nn : PySem.W.findIn K (.ref C) "_needed" = some none) (h_ns : PySem.W.findIn K (.ref C) "_signers" = some none) : K54C.CTx K mg C :=
  ⟨⟨h_cl1, h_cl2, h_cl3, h_cl4⟩, PySem.W.mg_of X G h_cC, h_cls_, h_cgt, h_ctk, h_mro, h_ne, h_kCC, h_kN, h_kI, h_kS, h_kL, h_kT, h_kD, h_oCC, h_oN, h_oI, h_oS, h_oL, h_oT, h_oD, h_nu, h_nv, h_nn, h_ns⟩
theorem K54F_Txt_of {K : PySem.W.Frag} {mg : Str → Option Value} {C : Addr} {h : Heap} {t_gMOST_KINDS : Tok} {t_g_LONGEST_CHAIN : Tok} (X : K.In h) (G : h.Ns mainGlobals mg) (h_cl1 : PySem.W.plainGet K C Str.empty = true) (h_cl2 : PySem.W.hasDictIn K C = true) (h_cl3 : PySem.W.plainOver K C = true) (h_cl4 : PySem.W.findIn K (.ref C) "__setattr__" = some (some (.builtin "object.__setattr__"))) (h_ng : PySem.W.findIn K (.ref C) "_gap" = some none) (h_na : PySem.W.findIn K (.ref C) "_age" = some none) (h_ns : PySem.W.findIn K (.ref C) "_source" = some none) (h_cKind : PySem.W.nsIn K mainGlobals "Kind" = some (some (.ref C))) (h_gLONGEST : ∃ u, mg "LONGEST" = some u ∧ L2.RelV (.int 1000000000000000000000000000000) u) (h_b_isinstance : PySem.W.nsIn K mainGlobals "isinstance" = some none) (h_b_int : PySem.W.nsIn K mainGlobals "int" = some none) (h_b_bool : PySem.W.nsIn K mainGlobals "bool" = some none) (h_b_str : PySem.W.nsIn K mainGlobals "str" = some none) (h_b_tuple : PySem.W.nsIn K mainGlobals "tuple" = some none) (h_b_len : PySem.W.nsIn K mainGlobals "len" = some none) (h_b_max : PySem.W.nsIn K mainGlobals "max" = some none) (h_b_min : PySem.W.nsIn K mainGlobals "min" = some none) (h_b_range : PySem.W.nsIn K mainGlobals "range" = some none) (h_b_repr : PySem.W.nsIn K mainGlobals "repr" = some none) (h_gMOST_KINDS : PySem.W.nsIn K mainGlobals "MOST_KINDS" = some (some (.int 5 t_gMOST_KINDS))) (h_g_LONGEST_CHAIN : PySem.W.nsIn K mainGlobals "_LONGEST_CHAIN" = some (some (.int 4 t_g_LONGEST_CHAIN))) (h_b_any : PySem.W.nsIn K mainGlobals "any" = some none) (h_b_set : PySem.W.nsIn K mainGlobals "set" = some none) (h_b_dict : PySem.W.nsIn K mainGlobals "dict" = some none) (h_b_list : PySem.W.nsIn K mainGlobals "list" = some none) (h_b_sorted : PySem.W.nsIn K mainGlobals "sorted" = some none) (h_cls_ : PySem.W.findIn K (.ref C) "__class__" = some (some (.builtin "object.__class__"))) (h_cgt : PySem.W.specialIn K (.builtin "object.__class__") "__get__" = some (some (.builtin "getset_descriptor.__get__"))) (h_ctk : PySem.W.takesIn K (.builtin "object.__class__") = some true) (h_mro : PySem.W.mroIn K C (.type "object") = some true) (h_ne : PySem.W.findIn K (.ref C) "__ne__" = some (some (.builtin "object.__ne__"))) (h_kCC : PySem.W.kitOne K (.ref C) (.ref C) = some true) (h_kN : PySem.W.kitOne K (.type "NoneType") (.ref C) = some false) (h_kI : PySem.W.kitOne K (.type "int") (.ref C) = some false) (h_kS : PySem.W.kitOne K (.type "str") (.ref C) = some false) (h_kL : PySem.W.kitOne K (.type "list") (.ref C) = some false) (h_kT : PySem.W.kitOne K (.type "tuple") (.ref C) = some false) (h_kD : PySem.W.kitOne K (.type "dict") (.ref C) = some false) (h_oCC : PySem.W.notFirst K C (.ref C) = true) (h_oN : PySem.W.notFirst K C (.type "NoneType") = true) (h_oI : PySem.W.notFirst K C (.type "int") = true) (h_oS : PySem.W.notFirst K C (.type "str") = true) (h_oL : PySem.W.notFirst K C (.type "list") = true) (h_oT : PySem.W.notFirst K C (.type "tuple") = true) (h_oD : PySem.W.notFirst K C (.type "dict") = true) : K54F.Txt K mg C :=
  ⟨⟨h_cl1, h_cl2, h_cl3, h_cl4⟩, h_ng, h_na, h_ns, PySem.W.mg_of X G h_cKind, (by rw [K54F.L_eq]; exact h_gLONGEST), PySem.W.mg_none_of X G h_b_isinstance, PySem.W.mg_none_of X G h_b_int, PySem.W.mg_none_of X G h_b_bool, PySem.W.mg_none_of X G h_b_str, PySem.W.mg_none_of X G h_b_tuple, PySem.W.mg_none_of X G h_b_len, PySem.W.mg_none_of X G h_b_max, PySem.W.mg_none_of X G h_b_min, PySem.W.mg_none_of X G h_b_range, PySem.W.mg_none_of X G h_b_repr, ⟨_, PySem.W.mg_of X G h_gMOST_KINDS, t_gMOST_KINDS, rfl⟩, ⟨_, PySem.W.mg_of X G h_g_LONGEST_CHAIN, t_g_LONGEST_CHAIN, rfl⟩, PySem.W.mg_none_of X G h_b_any, PySem.W.mg_none_of X G h_b_set, PySem.W.mg_none_of X G h_b_dict, PySem.W.mg_none_of X G h_b_list, PySem.W.mg_none_of X G h_b_sorted, h_cls_, h_cgt, h_ctk, h_mro, h_ne, h_kCC, h_kN, h_kI, h_kS, h_kL, h_kT, h_kD, h_oCC, h_oN, h_oI, h_oS, h_oL, h_oT, h_oD⟩
theorem K54F_FTx_of {K : PySem.W.Frag} {mg : Str → Option Value} {F : Addr} {h : Heap} {g_fn : Addr} (X : K.In h) (G : h.Ns mainGlobals mg) (h_cl1 : PySem.W.plainGet K F Str.empty = true) (h_cl2 : PySem.W.hasDictIn K F = true) (h_cl3 : PySem.W.plainOver K F = true) (h_cl4 : PySem.W.findIn K (.ref F) "__setattr__" = some (some (.builtin "object.__setattr__"))) (h_nk : PySem.W.findIn K (.ref F) "_kinds" = some none) (h_nc : PySem.W.findIn K (.ref F) "_calls" = some none) (h_cFleet : PySem.W.nsIn K mainGlobals "Fleet" = some (some (.ref F))) (h_ns : PySem.W.noSeq K F = true) (h_fn1 : PySem.W.findIn K (.ref F) "__getitem__" = some (some (.ref g_fn))) (h_fn2 : PySem.W.fnIn K g_fn = true) : K54F.FTx K mg F :=
  ⟨⟨h_cl1, h_cl2, h_cl3, h_cl4⟩, h_nk, h_nc, PySem.W.mg_of X G h_cFleet, h_ns, fun x e => by rw [h_fn1] at e; cases e; exact h_fn2⟩
theorem K54F_TxM_of {K : PySem.W.Frag} {mg : Str → Option Value} {h : Heap} {t_gMOST_CALLS : Tok} (X : K.In h) (G : h.Ns mainGlobals mg) (h_gMOST_CALLS : PySem.W.nsIn K mainGlobals "MOST_CALLS" = some (some (.int 6 t_gMOST_CALLS))) (h_b_zip : PySem.W.nsIn K mainGlobals "zip" = some none) : K54F.TxM K mg :=
  ⟨⟨_, PySem.W.mg_of X G h_gMOST_CALLS, t_gMOST_CALLS, rfl⟩, PySem.W.mg_none_of X G h_b_zip⟩
theorem K54R_Txt_of {K : PySem.W.Frag} {mg : Str → Option Value} {C : Addr} {h : Heap} (X : K.In h) (G : h.Ns mainGlobals mg) (h_cl1 : PySem.W.plainGet K C Str.empty = true) (h_cl2 : PySem.W.hasDictIn K C = true) (h_cl3 : PySem.W.plainOver K C = true) (h_cl4 : PySem.W.findIn K (.ref C) "__setattr__" = some (some (.builtin "object.__setattr__"))) (h_nl : PySem.W.findIn K (.ref C) "_low" = some none) (h_nh : PySem.W.findIn K (.ref C) "_high" = some none) (h_sf : PySem.W.selfFirst K C = true) (h_cRange : PySem.W.nsIn K mainGlobals "Range" = some (some (.ref C))) (h_gBOUND : ∃ u, mg "BOUND" = some u ∧ L2.RelV (.int 1000000000000000000000000000000000000000000000000000000000000) u) (h_b_isinstance : PySem.W.nsIn K mainGlobals "isinstance" = some none) (h_b_int : PySem.W.nsIn K mainGlobals "int" = some none) (h_b_bool : PySem.W.nsIn K mainGlobals "bool" = some none) (h_b_str : PySem.W.nsIn K mainGlobals "str" = some none) (h_b_len : PySem.W.nsIn K mainGlobals "len" = some none) (h_b_max : PySem.W.nsIn K mainGlobals "max" = some none) (h_b_min : PySem.W.nsIn K mainGlobals "min" = some none) (h_b_range : PySem.W.nsIn K mainGlobals "range" = some none) (h_b_repr : PySem.W.nsIn K mainGlobals "repr" = some none) (h_b_sorted : PySem.W.nsIn K mainGlobals "sorted" = some none) (h_b_set : PySem.W.nsIn K mainGlobals "set" = some none) (h_cls_ : PySem.W.findIn K (.ref C) "__class__" = some (some (.builtin "object.__class__"))) (h_cgt : PySem.W.specialIn K (.builtin "object.__class__") "__get__" = some (some (.builtin "getset_descriptor.__get__"))) (h_ctk : PySem.W.takesIn K (.builtin "object.__class__") = some true) (h_mro : PySem.W.mroIn K C (.type "object") = some true) (h_kCC : PySem.W.kitOne K (.ref C) (.ref C) = some true) (h_kN : PySem.W.kitOne K (.type "NoneType") (.ref C) = some false) (h_kB : PySem.W.kitOne K (.type "bool") (.ref C) = some false) (h_kI : PySem.W.kitOne K (.type "int") (.ref C) = some false) (h_kS : PySem.W.kitOne K (.type "str") (.ref C) = some false) (h_kL : PySem.W.kitOne K (.type "list") (.ref C) = some false) (h_kT : PySem.W.kitOne K (.type "tuple") (.ref C) = some false) (h_kD : PySem.W.kitOne K (.type "dict") (.ref C) = some false) (h_kCi : PySem.W.kitOne K (.ref C) (.type "int") = some false) (h_oCC : PySem.W.notFirst K C (.ref C) = true) : K54R.Txt K mg C :=
  ⟨⟨h_cl1, h_cl2, h_cl3, h_cl4⟩, h_nl, h_nh, h_sf, PySem.W.mg_of X G h_cRange, (by rw [K54R.B_eq]; exact h_gBOUND), PySem.W.mg_none_of X G h_b_isinstance, PySem.W.mg_none_of X G h_b_int, PySem.W.mg_none_of X G h_b_bool, PySem.W.mg_none_of X G h_b_str, PySem.W.mg_none_of X G h_b_len, PySem.W.mg_none_of X G h_b_max, PySem.W.mg_none_of X G h_b_min, PySem.W.mg_none_of X G h_b_range, PySem.W.mg_none_of X G h_b_repr, PySem.W.mg_none_of X G h_b_sorted, PySem.W.mg_none_of X G h_b_set, h_cls_, h_cgt, h_ctk, h_mro, h_kCC, h_kN, h_kB, h_kI, h_kS, h_kL, h_kT, h_kD, h_kCi, h_oCC⟩
theorem TxP_of {K : PySem.W.Frag} {mg : Str → Option Value} {h : Heap} {t_gMOST_EDITIONS : Tok} (X : K.In h) (G : h.Ns mainGlobals mg) (h_g_LAST_MOMENT : ∃ u, mg "_LAST_MOMENT" = some u ∧ L2.RelV (.int 10000000000000000000000000000000000000000) u) (h_gMOST_EDITIONS : PySem.W.nsIn K mainGlobals "MOST_EDITIONS" = some (some (.int 7 t_gMOST_EDITIONS))) (h_b_isinstance : PySem.W.nsIn K mainGlobals "isinstance" = some none) (h_b_tuple : PySem.W.nsIn K mainGlobals "tuple" = some none) (h_b_list : PySem.W.nsIn K mainGlobals "list" = some none) (h_b_len : PySem.W.nsIn K mainGlobals "len" = some none) (h_b_enumerate : PySem.W.nsIn K mainGlobals "enumerate" = some none) (h_b_range : PySem.W.nsIn K mainGlobals "range" = some none) (h_b_zip : PySem.W.nsIn K mainGlobals "zip" = some none) (h_b_max : PySem.W.nsIn K mainGlobals "max" = some none) (h_b_min : PySem.W.nsIn K mainGlobals "min" = some none) (h_b_repr : PySem.W.nsIn K mainGlobals "repr" = some none) : TxP K mg :=
  ⟨(by rw [LM_eq]; exact h_g_LAST_MOMENT), ⟨_, PySem.W.mg_of X G h_gMOST_EDITIONS, t_gMOST_EDITIONS, rfl⟩, PySem.W.mg_none_of X G h_b_isinstance, PySem.W.mg_none_of X G h_b_tuple, PySem.W.mg_none_of X G h_b_list, PySem.W.mg_none_of X G h_b_len, PySem.W.mg_none_of X G h_b_enumerate, PySem.W.mg_none_of X G h_b_range, PySem.W.mg_none_of X G h_b_zip, PySem.W.mg_none_of X G h_b_max, PySem.W.mg_none_of X G h_b_min, PySem.W.mg_none_of X G h_b_repr⟩
theorem PTx_of {K : PySem.W.Frag} {mg : Str → Option Value} {PC : Addr} {h : Heap} (X : K.In h) (G : h.Ns mainGlobals mg) (h_cl1 : PySem.W.plainGet K PC Str.empty = true) (h_cl2 : PySem.W.hasDictIn K PC = true) (h_cl3 : PySem.W.plainOver K PC = true) (h_cl4 : PySem.W.findIn K (.ref PC) "__setattr__" = some (some (.builtin "object.__setattr__"))) (h_cPlan : PySem.W.nsIn K mainGlobals "Plan" = some (some (.ref PC))) (h_ne : PySem.W.findIn K (.ref PC) "_editions" = some none) : PTx K mg PC :=
  ⟨⟨h_cl1, h_cl2, h_cl3, h_cl4⟩, PySem.W.mg_of X G h_cPlan, h_ne⟩
theorem PEx_of {K : PySem.W.Frag} {PC : Addr} {h : Heap} {mg : Str → Option Value} (X : K.In h) (G : h.Ns mainGlobals mg) (h_cls_ : PySem.W.findIn K (.ref PC) "__class__" = some (some (.builtin "object.__class__"))) (h_cgt : PySem.W.specialIn K (.builtin "object.__class__") "__get__" = some (some (.builtin "getset_descriptor.__get__"))) (h_ctk : PySem.W.takesIn K (.builtin "object.__class__") = some true) (h_mro : PySem.W.mroIn K PC (.type "object") = some true) (h_ne : PySem.W.findIn K (.ref PC) "__ne__" = some (some (.builtin "object.__ne__"))) (h_kCC : PySem.W.kitOne K (.ref PC) (.ref PC) = some true) (h_oCC : PySem.W.notFirst K PC (.ref PC) = true) : PEx K PC :=
  ⟨h_cls_, h_cgt, h_ctk, h_mro, h_ne, h_kCC, h_oCC⟩
theorem TstR_of {K : PySem.W.Frag} {mg : Str → Option Value} {CU : Addr} {CE : Addr} {CI : Addr} {CM : Addr} {CO : Addr} {CG : Addr} {h : Heap} (X : K.In h) (G : h.Ns mainGlobals mg) (h_bL : PySem.W.nsIn K mainGlobals "LookupError" = some none) (h_bO : PySem.W.nsIn K mainGlobals "OverflowError" = some none) (h_gG : PySem.W.nsIn K mainGlobals "GapError" = some (some (.ref CG))) (h_xEU : PySem.W.exmOne K (.ref CE) (.ref CU) = some false) (h_xIU : PySem.W.exmOne K (.ref CI) (.ref CU) = some false) (h_xIE : PySem.W.exmOne K (.ref CI) (.ref CE) = some false) (h_xMU : PySem.W.exmOne K (.ref CM) (.ref CU) = some false) (h_xME : PySem.W.exmOne K (.ref CM) (.ref CE) = some false) (h_xMI : PySem.W.exmOne K (.ref CM) (.ref CI) = some false) (h_xOU : PySem.W.exmOne K (.ref CO) (.ref CU) = some false) (h_xOE : PySem.W.exmOne K (.ref CO) (.ref CE) = some false) (h_xOI : PySem.W.exmOne K (.ref CO) (.ref CI) = some false) (h_xOM : PySem.W.exmOne K (.ref CO) (.ref CM) = some false) (h_kU : PySem.W.kitOne K (.ref CU) (.type "LookupError") = some true) (h_kE : PySem.W.kitOne K (.ref CE) (.type "LookupError") = some true) (h_kIG : PySem.W.kitOne K (.ref CI) (.ref CG) = some true) (h_kMG : PySem.W.kitOne K (.ref CM) (.ref CG) = some true) (h_kOO : PySem.W.kitOne K (.ref CO) (.type "OverflowError") = some true) : TstR K mg CU CE CI CM CO CG :=
  ⟨PySem.W.mg_none_of X G h_bL, PySem.W.mg_none_of X G h_bO, PySem.W.mg_of X G h_gG, h_xEU, h_xIU, h_xIE, h_xMU, h_xME, h_xMI, h_xOU, h_xOE, h_xOI, h_xOM, h_kU, h_kE, h_kIG, h_kMG, h_kOO⟩
abbrev kws_NN : List (Str × V) := [("needed", .int 1), ("signers", .non)]
theorem Ini_NN {K : PySem.W.Frag} {C D : Addr} {qual : Str} {st : Stmt} {f : Addr} {oc : Value} {od an : Option Addr} {osl : Array (Option Value)} {doc pm cdv ct : Value} {tk0 : Tok}
    (a : PySem.W.findIn K (.ref C) "__init__" = some (some (.ref f))) (i : PySem.W.isFn K (.ref f) = true) (l : K.lookup f = some ⟨oc, od, .func (PySem.W.fnOf "__init__" qual (defArgs st) (defBody st) (defScope st) .none (.ref D) doc pm an cdv ct), osl⟩)
    (c : PySem.W.codeIn K cdv qual = true) (k : PySem.W.keepIn K (.ref f) = true) (d0 : PySem.W.nsIn K D "needed" = some (some (.int 1 tk0))) (d1 : PySem.W.nsIn K D "signers" = some (some .none)) : IniK K C qual st kws_NN :=
  IniK.of a i l c k (.inr ⟨D, rfl, fun q hq => by
    simp only [kws_NN, List.mem_cons, List.not_mem_nil, or_false] at hq
    rcases hq with rfl | rfl
    · exact ⟨(.int 1 tk0), d0, tk0, rfl⟩
    · exact ⟨.none, d1, rfl⟩⟩)
abbrev kws_NK : List (Str × V) := [("age", .non), ("source", .non)]
theorem Ini_NK {K : PySem.W.Frag} {C D : Addr} {qual : Str} {st : Stmt} {f : Addr} {oc : Value} {od an : Option Addr} {osl : Array (Option Value)} {doc pm cdv ct : Value} 
    (a : PySem.W.findIn K (.ref C) "__init__" = some (some (.ref f))) (i : PySem.W.isFn K (.ref f) = true) (l : K.lookup f = some ⟨oc, od, .func (PySem.W.fnOf "__init__" qual (defArgs st) (defBody st) (defScope st) .none (.ref D) doc pm an cdv ct), osl⟩)
    (c : PySem.W.codeIn K cdv qual = true) (k : PySem.W.keepIn K (.ref f) = true) (d0 : PySem.W.nsIn K D "age" = some (some .none)) (d1 : PySem.W.nsIn K D "source" = some (some .none)) : IniK K C qual st kws_NK :=
  IniK.of a i l c k (.inr ⟨D, rfl, fun q hq => by
    simp only [kws_NK, List.mem_cons, List.not_mem_nil, or_false] at hq
    rcases hq with rfl | rfl
    · exact ⟨.none, d0, rfl⟩
    · exact ⟨.none, d1, rfl⟩⟩)
abbrev kws_NA : List (Str × V) := [("life", .int 0)]
theorem Mth_NA {K : PySem.W.Frag} {C D : Addr} {qual : Str} {st : Stmt} {f : Addr} {oc : Value} {od an : Option Addr} {osl : Array (Option Value)} {doc pm cdv ct : Value} {tk0 : Tok}
    (a : PySem.W.findIn K (.ref C) "add_call" = some (some (.ref f))) (i : PySem.W.isFn K (.ref f) = true) (l : K.lookup f = some ⟨oc, od, .func (PySem.W.fnOf "add_call" qual (defArgs st) (defBody st) (defScope st) .none (.ref D) doc pm an cdv ct), osl⟩)
    (c : PySem.W.codeIn K cdv qual = true) (k : PySem.W.keepIn K (.ref f) = true) (d0 : PySem.W.nsIn K D "life" = some (some (.int 0 tk0))) : MthK K C "add_call" qual st kws_NA :=
  MthK.of a i l c k (.inr ⟨D, rfl, fun q hq => by
    simp only [kws_NA, List.mem_cons, List.not_mem_nil, or_false] at hq
    rcases hq with rfl
    · exact ⟨(.int 0 tk0), d0, tk0, rfl⟩⟩)
theorem len_cinit {P : Program} {w : World} {K : PySem.W.Frag} {C CI : Addr} : ∀ vs H Q E, K54C.spCInit P w K C CI vs H Q E → vs.length = ["self", "roles", "vouchers", "needed", "signers"].length := fun vs H Q E h => by
  obtain ⟨x, dx, r, v, n, s, H0, rfl, _⟩ := h; rfl
theorem mak2 {P : Program} {w : World} {K : PySem.W.Frag} {mg : Str → Option Value} {base : Heap} {C CI : Addr} (D : IniK K C "Contents.__init__" K54C.s_Contents_init kws_NN) (m : mg "Contents" = some (.ref C)) (mk : PySem.W.makesIn K C = true) (kp : PySem.W.keepIn K (.ref C) = true)
    (body : ∀ f, BodyX P w K mg base ["self", "roles", "vouchers", "needed", "signers", "part", "role", "accepted", "used"] "Contents.__init__" K54C.s_Contents_init f 6 (K54C.spCInit P w K C CI)) : MakN P w K mg base (L2.CX P w) 7 "Contents" C 2 ["needed", "signers"] (fun vs zs => vs ++ zs) (K54C.spCInit P w K C CI) :=
  D.makN m mk kp K54C.sc_Contents_init len_cinit 2 [] (fun us mv ws => us ++ ws) (fun z => nomatch z) (fun q hq => nomatch hq) (fun r1 _ r3 => r1.append r3)
    (fun D doc pm an cdv ct us mv ws h1 h2 h3 => match us, mv, ws, h1, h2, h3 with | [_, _, _], [], [_, _], _, _, _ => rfl) body
theorem len_kinit {K : PySem.W.Frag} {C CI : Addr} : ∀ vs H Q E, K54F.spKInit K C CI vs H Q E → vs.length = ["self", "gap", "age", "source"].length := fun vs H Q E h => by
  obtain ⟨x, dx, u, v, s, H0, rfl, _⟩ := h; rfl
section
variable {P : Program} {w : World} {K : PySem.W.Frag} {mg : Str → Option Value} {base : Heap} {C CI : Addr} (D : IniK K C "Kind.__init__" K54F.s_Kind_init kws_NK) (m : mg "Kind" = some (.ref C)) (mk : PySem.W.makesIn K C = true) (kp : PySem.W.keepIn K (.ref C) = true)
    (body : ∀ f, BodyX P w K mg base ["self", "gap", "age", "source"] "Kind.__init__" K54F.s_Kind_init f 4 (K54F.spKInit K C CI))
include D m mk kp body
theorem mak3 : MakW P w K mg base (L2.CX P w) 5 "Kind" C ["gap", "age", "source"] K54F.g3 (K54F.spKInit K C CI) :=
  D.mak m mk kp K54F.sc_Kind_init len_kinit [] (fun us mv ws => us ++ ws) (fun z => nomatch z) (fun q hq => nomatch hq) (fun r1 _ r3 => r1.append r3)
    (fun D doc pm an cdv ct us mv ws h1 h2 h3 => match us, mv, ws, h1, h2, h3 with | [_], [], [_, _, _], _, _, _ => rfl) body
end
theorem len_add {K : PySem.W.Frag} {F C CA CU CM CO : Addr} : ∀ vs H Q E, K54F.spAdd K F C CA CU CM CO vs H Q E → vs.length = ["self", "role", "client", "server", "life"].length := fun vs H Q E h => by
  obtain ⟨f, d, c, y0, y1, y2, y3, ks, cs, rfl, _⟩ := h; rfl
section
variable {P : Program} {w : World} {K : PySem.W.Frag} {mg : Str → Option Value} {base : Heap} {C CA CU CM CO FC : Addr} (D : MthK K FC "add_call" "Fleet.add_call" K54F.s_Fleet_add_call kws_NA)
    (body : ∀ f, BodyX P w K mg base ["self", "role", "client", "server", "life"] "Fleet.add_call" K54F.s_Fleet_add_call f 4 (K54F.spAdd K FC C CA CU CM CO))
include D body
theorem metA : MetW P w K mg base (L2.CX P w) 5 FC "add_call" 4 ["life"] gA4 (K54F.spAdd K FC C CA CU CM CO) :=
  D.met K54F.sc_Fleet_add_call len_add 4 [] (fun us mv ws => us ++ ws) (fun z => nomatch z) (fun q hq => nomatch hq) (fun r1 _ r3 => r1.append r3)
    (fun D doc pm an cdv ct us mv ws h1 h2 h3 => match us, mv, ws, h1, h2, h3 with | [_, _, _, _], [], [_], _, _, _ => rfl) body
theorem metA0 : MetW P w K mg base (L2.CX P w) 5 FC "add_call" 4 [] (fun vs zs => vs ++ [.int 0] ++ zs) (K54F.spAdd K FC C CA CU CM CO) :=
  D.met K54F.sc_Fleet_add_call len_add 4 kws_NA (fun us mv ws => us ++ mv ++ ws) (fun z => nomatch z) (fun q hq => hq) (fun r1 r2 r3 => (r1.append r2).append r3)
    (fun D doc pm an cdv ct us mv ws h1 h2 h3 => match us, mv, ws, h1, h2, h3 with | [_, _, _, _], [_], [], _, _, _ => ⟨_, _, _, _, _, _, rfl, rfl, rfl⟩) body
end
theorem mak0 {P : Program} {w : World} {K : PySem.W.Frag} {mg : Str → Option Value} {base : Heap} {C CI : Addr} (D : IniK K C "Contents.__init__" K54C.s_Contents_init kws_NN) (m : mg "Contents" = some (.ref C)) (mk : PySem.W.makesIn K C = true) (kp : PySem.W.keepIn K (.ref C) = true)
    (body : ∀ f, BodyX P w K mg base ["self", "roles", "vouchers", "needed", "signers", "part", "role", "accepted", "used"] "Contents.__init__" K54C.s_Contents_init f 6 (K54C.spCInit P w K C CI)) : MakN P w K mg base (L2.CX P w) 7 "Contents" C 2 [] (fun vs zs => vs ++ zs ++ [.int 1, .non]) (K54C.spCInit P w K C CI) :=
  D.makN m mk kp K54C.sc_Contents_init len_cinit 2 kws_NN (fun us mv ws => us ++ ws ++ mv) (fun z => nomatch z) (fun q hq => hq) (fun r1 r2 r3 => (r1.append r3).append r2)
    (fun D doc pm an cdv ct us mv ws h1 h2 h3 => match us, mv, ws, h1, h2, h3 with | [_, _, _], [_, _], [], _, _, _ => ⟨_, _, _, _, _, _, rfl, rfl, _, _, _, _, _, _, rfl, rfl, rfl⟩) body
theorem fin {P : Program} {w : World} {K : PySem.W.Frag} {mg : Str → Option Value} {fa C KC FC RC PC CI CU CK CO CA CM CE CG : Addr} (hfa : mg "law" = some (.ref fa)) (TC : K54C.Txt K mg) (J : K54C.CTx K mg C) (TK : K54F.Txt K mg KC) (TF : K54F.FTx K mg FC) (T4 : K54F.TxM K mg) (RT : K54R.Txt K mg RC) (TP : TxP K mg) (PT : PTx K mg PC) (PE2 : PEx K PC) (W9 : TstR K mg CU CE CI CM CO CG) (m1 : PySem.W.makesIn K C = true) (m2 : PySem.W.keepIn K (.ref C) = true) (m3 : PySem.W.makesIn K KC = true) (m4 : PySem.W.keepIn K (.ref KC) = true) (m5 : PySem.W.makesIn K FC = true) (m6 : PySem.W.keepIn K (.ref FC) = true) (m7 : PySem.W.makesIn K RC = true) (m8 : PySem.W.keepIn K (.ref RC) = true) (m9 : PySem.W.makesIn K PC = true) (m10 : PySem.W.keepIn K (.ref PC) = true) (XI : K54F.ExnQ K mg "InvalidContents" CI "InvalidContents.__init__" K54C.s_InvalidContents_init "part") (XU : K54F.ExnQ K mg "UnknownName" CU "UnknownName.__init__" K54F.s_UnknownName_init "name") (XK : K54F.ExnQ K mg "InvalidKind" CK "InvalidKind.__init__" K54F.s_InvalidKind_init "value") (XO : K54F.ExnQ K mg "LimitExceeded" CO "LimitExceeded.__init__" K54F.s_LimitExceeded_init "limit") (XA : K54F.ExnQ K mg "InvalidCall" CA "InvalidCall.__init__" K54F.s_InvalidCall_init "value") (XM : K54F.ExnQ K mg "InvalidMoment" CM "InvalidMoment.__init__" K54F.s_InvalidMoment_init "value") (XE : K54F.ExnQ K mg "UnknownEdition" CE "UnknownEdition.__init__" s_UnknownEdition_init "number") (NN : IniK K C "Contents.__init__" K54C.s_Contents_init kws_NN) (NK : IniK K KC "Kind.__init__" K54F.s_Kind_init kws_NK) (NA : MthK K FC "add_call" "Fleet.add_call" K54F.s_Fleet_add_call kws_NA) (d1 : DefK K mg "is_integer" K54C.s_is_integer) (d2 : DefK K mg "is_word" K54C.s_is_word) (d3 : DefK K mg "are_different_keys" K54C.s_are_different_keys) (d4 : DefK K mg "_is_use" K54C.s_is_use) (d5 : DefK K mg "_are_roles" K54C.s_are_roles) (d6 : DefK K mg "_wrong_part" K54C.s_wrong_part) (d7 : DefK K mg "_in_order" K54C.s_in_order) (d8 : PrpK K C "roles" "Contents.roles" K54C.s_Contents_roles) (d9 : DefK K mg "_law_stream" K54C.s_law_stream) (d10 : DefK K mg "_law_draw" K54C.s_law_draw) (d11 : DefK K mg "_law_choose" K54C.s_law_choose) (d12 : DefK K mg "_law_some" K54C.s_law_some) (d13 : DefK K mg "_law_words" K54C.s_law_words) (d14 : DefK K mg "_law_told" K54C.s_law_told) (d15 : DefK K mg "_law_turned" K54C.s_law_turned) (d16 : DefK K mg "_law_next" K54C.s_law_next) (d17 : DefK K mg "_law_tolds" K54C.s_law_tolds) (d18 : DefK K mg "_law_contents" K54C.s_law_contents) (d19 : MetK K C "_use" "Contents._use" K54C.s_Contents_use) (d20 : MetK K C "accepted" "Contents.accepted" K54C.s_Contents_accepted) (d21 : MetK K C "used" "Contents.used" K54C.s_Contents_used) (d22 : MetK K C "takes" "Contents.takes" K54C.s_Contents_takes) (d23 : MetK K C "__eq__" "Contents.__eq__" K54C.s_Contents_eq) (d24 : DefK K mg "is_integer" K54F.s_is_integer) (d25 : DefK K mg "is_between" K54F.s_is_between) (d26 : DefK K mg "is_word" K54F.s_is_word) (d27 : DefK K mg "_checked_gap" K54F.s_checked_gap) (d28 : DefK K mg "_checked_age" K54F.s_checked_age) (d29 : DefK K mg "_checked_source" K54F.s_checked_source) (d30 : PrpK K KC "gap" "Kind.gap" K54F.s_Kind_gap) (d31 : PrpK K KC "age" "Kind.age" K54F.s_Kind_age) (d32 : PrpK K KC "source" "Kind.source" K54F.s_Kind_source) (d33 : DefK K mg "_copied" K54F.s_copied) (d34 : DefK K mg "_chain_to" K54F.s_chain_to) (d35 : MetK K FC "__init__" "Fleet.__init__" K54F.s_Fleet_init) (d36 : MetK K FC "__setitem__" "Fleet.__setitem__" K54F.s_Fleet_setitem) (d37 : MetK K FC "_check" "Fleet._check" K54F.s_Fleet_check) (d38 : MetK K FC "chain" "Fleet.chain" K54F.s_Fleet_chain) (d39 : MetK K FC "lateness" "Fleet.lateness" K54F.s_Fleet_lateness) (d40 : MetK K FC "calls" "Fleet.calls" K54F.s_Fleet_calls) (d41 : MetK K FC "names" "Fleet.names" K54F.s_Fleet_names) (d42 : DefK K mg "is_integer" K54R.s_is_integer) (d43 : DefK K mg "is_bounded" K54R.s_is_bounded) (d44 : MetK K RC "__init__" "Range.__init__" K54R.s_Range_init) (d45 : MetK K RC "__and__" "Range.__and__" K54R.s_Range_and) (d46 : MetK K RC "__bool__" "Range.__bool__" K54R.s_Range_bool) (d47 : CmtK K RC (.type "type") "empty" "Range.empty" K54R.s_Range_empty) (d48 : DefK K mg "_between" K54R.s_between) (d49 : DefK K mg "_lesser" K54R.s_lesser) (d50 : DefK K mg "_greater" K54R.s_greater) (d51 : DefK K mg "is_moment" s_is_moment) (d52 : DefK K mg "is_index" s_is_index) (d53 : DefK K mg "is_tuple_of" s_is_tuple_of) (d54 : DefK K mg "_is_edition" s_is_edition) (d55 : DefK K mg "_first_wrong" s_first_wrong) (d56 : MetK K PC "__init__" "Plan.__init__" s_Plan_init) (d57 : MetK K PC "__len__" "Plan.__len__" s_Plan_len) (d58 : MetK K PC "_check" "Plan._check" s_Plan_check) (d59 : MetK K PC "moment_of" "Plan.moment_of" s_Plan_moment_of) (d60 : MetK K PC "contents_of" "Plan.contents_of" s_Plan_contents_of) (d61 : MetK K PC "moments" "Plan.moments" s_Plan_moments) (d62 : MetK K PC "__eq__" "Plan.__eq__" s_Plan_eq) (d63 : MetK K PC "cut" "Plan.cut" s_Plan_cut) (d64 : MetK K PC "add" "Plan.add" s_Plan_add) (d65 : DefK K mg "span" s_span) (d66 : DefK K mg "held_span" s_held_span) (d67 : DefK K mg "shown_span" s_shown_span) (d68 : DefK K mg "common_span" s_common_span) (d69 : DefK K mg "meeting_pairs" s_meeting_pairs) (d70 : DefK K mg "all_meetings" s_all_meetings) (d71 : DefK K mg "check_roles" s_check_roles) (d72 : DefK K mg "contents_in" s_contents_in) (d73 : DefK K mg "last_jump" s_last_jump) (d74 : DefK K mg "jump_pairs" s_jump_pairs) (d75 : DefK K mg "all_jumps" s_all_jumps) (d76 : DefK K mg "is_refused" s_is_refused) (d77 : DefK K mg "refused" s_refused) (d78 : DefK K mg "locked_out" s_locked_out) (d79 : DefK K mg "newest_meetings" s_newest_meetings) (d80 : DefK K mg "newest_jumps" s_newest_jumps) (d81 : DefK K mg "told_faults" s_told_faults) (d82 : DefK K mg "have_roles" s_have_roles) (d83 : DefK K mg "check_later" s_check_later) (d84 : DefK K mg "_found_faults" s_found_faults) (d85 : DefK K mg "_check_undone" s_check_undone) (d86 : DefK K mg "renewed_faults" s_renewed_faults) (d87 : DefK K mg "undo_faults" s_undo_faults) (d88 : DefK K mg "first_stuck" s_first_stuck) (d89 : DefK K mg "is_undoable" s_is_undoable) (d90 : DefK K mg "undone" s_undone) (d91 : DefK K mg "_law_kinds" s_law_kinds) (d92 : DefK K mg "_law_calls" s_law_calls) (d93 : DefK K mg "_law_moments" s_law_moments) (d94 : DefK K mg "_law_plan" s_law_plan) (d95 : DefK K mg "_law_fleet" s_law_fleet) (d96 : DefK K mg "_law_small" s_law_small) (d97 : DefK K mg "_law_told_error" s_law_told_error) (d98 : DefK K mg "_law_numbers_right" s_law_numbers_right) (d99 : DefK K mg "_law_arguments_right" s_law_arguments_right) (d100 : DefK K mg "law" s_law) :
    ∃ fd : FuncData, (∀ (s : Shared) (v : Value), BindsTo s fd ⟨[v], []⟩ [("script", v)]) ∧ ∀ base : Heap, K.In base → base.Ns mainGlobals mg → FnG P w K mg base CX0 19 fa fd ["script"] (spLaw K) := by
  obtain ⟨f, fd, F, m⟩ := d100.ex
  rw [hfa] at m
  cases m
  refine ⟨fd, ?_, fun base _ _ => ?_⟩
  · obtain ⟨_, _, _, _, _, _, _, _, _, rfl, _, _⟩ := F.ex
    exact fun s v => .of_eq rfl
  · have g1 := K54C.ok_is_integer (P := P) (w := w) (base := base)  d1 TC
    have g2 := K54C.ok_is_word (P := P) (w := w) (base := base)  d2 TC
    have g3 := K54C.ok_keys (P := P) (w := w) (base := base)  d3 TC g2
    have g4 := K54C.ok_order (P := P) (w := w) (base := base)  d7 TC
    have g5 := K54C.ok_use (P := P) (w := w) (base := base)  d4 TC g2 g3
    have g6 := K54C.ok_roles (P := P) (w := w) (base := base)  d5 TC g2 g5
    have g7 := K54C.ok_wrong (P := P) (w := w) (base := base)  d6 TC g1 g3 g6
    have XIc : K54C.ExnQ K mg "InvalidContents" CI "InvalidContents.__init__" K54C.s_InvalidContents_init "part" := ⟨XI.mg_, XI.ovr, XI.xk, XI.no, XI.ini, XI.te⟩
    have g9 := K54C.ok_cxinit (P := P) (w := w) (base := base)  XIc
    have M2 := mak2 (CI := CI) NN J.cC m1 m2 (K54C.body_cinit (P := P) (w := w) (base := base) TC J (by assumption) (by assumption) (by assumption))
    have g12 := K54C.ok_croles (P := P) (w := w) (base := base)  d8 TC J
    have g13 := K54C.ok_stream (P := P) (w := w) (base := base)  d9 TC
    have g14 := K54C.ok_draw (P := P) (w := w) (base := base)  d10
    have g15 := K54C.ok_choose (P := P) (w := w) (base := base)  d11 TC g14
    have g16 := K54C.ok_words (P := P) (w := w) (base := base)  d13 TC g14 g15
    have gdr : Cal P w K mg base CX0 1 "_law_draw" K54C.spDr := K54C.drI (by assumption)
    have gch : Cal P w K mg base CX0 2 "_law_choose" (K54C.spCh K) := K54C.chI (by assumption)
    have g19 := K54C.ok_some (P := P) (w := w) (base := base)  d12 gdr
    have g20 := K54C.ok_told (P := P) (w := w) (base := base)  d14 gdr gch g19
    have gtI : Cal P w K mg base CX0 3 "_law_told" (K54C.spToldI K) := by unfold K54C.spToldI; assumption
    have g22 := K54C.ok_turned (P := P) (w := w) (base := base)  d15
    have g23 := K54C.ok_next (P := P) (w := w) (base := base)  d16 TC gdr gch g19 g22
    have g24 := K54C.ok_tolds (P := P) (w := w) (base := base)  d17 TC gdr gtI g23
    have g25 := K54C.ok_con (P := P) (w := w) (base := base)  d18 TC J M2
    have g26 := K54C.ok_ctakes (P := P) (w := w) (base := base)  d22 TC J
    have g27 := K54F.ok_is_integer (P := P) (w := w) (base := base)  d24 TK
    have g28 := K54F.ok_is_between (P := P) (w := w) (base := base)  d25 TK g27
    have g29 := K54F.ok_is_word (P := P) (w := w) (base := base)  d26 TK
    have g30 := K54F.ok_kinit (P := P) (w := w) (base := base)  XK
    have g31 := K54F.ok_uinit (P := P) (w := w) (base := base)  XU
    have g32 := K54F.ok_linit (P := P) (w := w) (base := base)  XO
    have g33 := K54F.ok_cinit (P := P) (w := w) (base := base)  XA
    have g34 := K54F.ok_minit (P := P) (w := w) (base := base)  XM
    have g35 := K54F.ok_cg (P := P) (w := w) (base := base)  d27 TK g28 g30
    have g36 := K54F.ok_ca (P := P) (w := w) (base := base)  d28 TK g28 g30
    have g37 := K54F.ok_cs (P := P) (w := w) (base := base)  d29 TK g29 g30
    have hb := K54F.body_kinit (P := P) (w := w) (base := base) TK (by assumption) (by assumption) (by assumption)
    have M3 := mak3 (CI := CK) NK TK.cKind m3 m4 hb
    have g41 := K54F.ok_gap (P := P) (w := w) (base := base)  d30 TK
    have g42 := K54F.ok_age (P := P) (w := w) (base := base)  d31 TK
    have g43 := K54F.ok_source (P := P) (w := w) (base := base)  d32 TK
    have g44 := K54F.ok_copied (P := P) (w := w) (base := base)  d33 TK M3 g41 g42 g43
    have g45 := K54F.ok_chain_to (P := P) (w := w) (base := base)  d34 TK TF g43
    have g46 := K54F.ok_finit (P := P) (w := w) (base := base) (C := KC) d35 TF
    have MF : Mak P w K mg base CX0 1 "Fleet" FC (K54F.spFInit FC KC) := ⟨TF.cFleet, m5, m6, by assumption⟩
    have g48 := K54F.ok_fset (P := P) (w := w) (base := base)  d36 TK TF g29 g43 g44 g45 g30 g31 g32
    have g49 := K54F.ok_fcheck (P := P) (w := w) (base := base)  d37 TK TF g29 g31
    have g50 := K54F.ok_fchain (P := P) (w := w) (base := base)  d38 TK TF g49 g45
    have g51 := K54F.ok_flate (P := P) (w := w) (base := base)  d39 TK TF g50 g41 g42
    have g52 := K54F.ok_fcalls (P := P) (w := w) (base := base) (C := KC) d40 TK TF
    have ba := K54F.body_add (P := P) (w := w) (base := base) TK T4 TF (by assumption) (by assumption) (by assumption) (by assumption) (by assumption) (by assumption)
    have MA := metA NA ba
    have MA0 := metA0 NA ba
    have g58 := K54F.ok_fnames (P := P) (w := w) (base := base) (C := KC) d41 TK TF
    have g59 := K54C.ok_cuse (P := P) (w := w) (base := base)  d19 TC J g2 g31
    have g60 := K54C.ok_cacc (P := P) (w := w) (base := base)  d20 TC J g59
    have g61 := K54C.ok_cused (P := P) (w := w) (base := base)  d21 TC J g59
    have g62 := K54C.ok_ceq (P := P) (w := w) (base := base)  d23 TC J
    have g63 := K54R.ok_is_integer (P := P) (w := w) (base := base)  d42 RT
    have g64 := K54R.ok_is_bounded (P := P) (w := w) (base := base)  d43 RT g63
    have g65 := K54R.ok_init (P := P) (w := w) (base := base)  d44 RT g64
    have MR : Mak P w K mg base CX0 3 "Range" RC (K54R.spInit RC) := ⟨RT.cRange, m7, m8, by assumption⟩
    have g67 := K54R.ok_empty (P := P) (w := w) (base := base)  d47 MR
    have g68 := K54R.ok_between (P := P) (w := w) (base := base)  d48 RT MR g67
    have g69 := K54R.ok_lesser (P := P) (w := w) (base := base)  d49
    have g70 := K54R.ok_greater (P := P) (w := w) (base := base)  d50
    have g71 := K54R.ok_and (P := P) (w := w) (base := base)  d45 RT g68 g69 g70
    have g72 := K54R.ok_bool (P := P) (w := w) (base := base)  d46 RT
    have g73 := ok_is_moment (P := P) (w := w) (base := base)  d51 TP g28
    have g74 := ok_is_index (P := P) (w := w) (base := base)  d52 g28
    have g75 := ok_is_tuple_of (P := P) (w := w) (base := base)  d53 TP
    have g76 := ok_is_edition (P := P) (w := w) (base := base)  d54 TP J g75 g73
    have g77 := ok_first_wrong (P := P) (w := w) (base := base)  d55 TP J g76 g12
    have g78 := ok_ueinit (P := P) (w := w) (base := base)  XE
    have g79 := ok_pinit (P := P) (w := w) (base := base)  d56 TP PT g77
    have MP : Mak P w K mg base CX0 6 "Plan" PC (spPInit PC C) := ⟨PT.cPlan, m9, m10, by assumption⟩
    have g81 := ok_plen (P := P) (w := w) (base := base) (C := C) d57 TP PT
    have g82 := ok_pcheck (P := P) (w := w) (base := base) (C := C) d58 TP PT g74 g78
    have g83 := ok_pmo (P := P) (w := w) (base := base) (C := C) d59 TP PT g82
    have g84 := ok_pco (P := P) (w := w) (base := base) (C := C) d60 TP PT g82
    have g85 := ok_pmoms (P := P) (w := w) (base := base) (C := C) d61 PT
    have g86 := ok_peq (P := P) (w := w) (base := base)  d62 TP PT PE2 g62
    have g87 := ok_span (P := P) (w := w) (base := base)  d65 TP MR
    have g88 := ok_hspan (P := P) (w := w) (base := base)  d66 g87
    have g89 := ok_chr (P := P) (w := w) (base := base)  d71 J TF g52 g12 g31
    have g90 := ok_lastj (P := P) (w := w) (base := base)  d73
    have g91 := ok_jpairs (P := P) (w := w) (base := base)  d74 TP g90
    have g92 := ok_cin (P := P) (w := w) (base := base) (C := C) d72 TP PT g81 g84
    have g93 := ok_allj (P := P) (w := w) (base := base)  d75 TF g58 g51 g91
    have g94 := ok_locked (P := P) (w := w) (base := base)  d78 J g26
    have g95 := ok_shown (P := P) (w := w) (base := base)  d67 g87
    have g96 := ok_com (P := P) (w := w) (base := base)  d68 TF RT g51 g95 g88 g71
    have g97 := ok_meetp (P := P) (w := w) (base := base)  d69 TP g96 g72
    have g98 := ok_allm (P := P) (w := w) (base := base)  d70 TP TF g52 g97
    have g99 := ok_isref (P := P) (w := w) (base := base)  d76 J g61 g60
    have g100 := ok_refd (P := P) (w := w) (base := base)  d77 TF g52 g99
    have g101 := ok_newm (P := P) (w := w) (base := base)  d79 TP g98
    have g102 := ok_newj (P := P) (w := w) (base := base)  d80 TP g93
    have g103 := ok_toldf (P := P) (w := w) (base := base)  d81
    have g104 := ok_hax (P := P) (w := w) (base := base)  d82 TP J g12
    have g105 := ok_latx (P := P) (w := w) (base := base)  d83 TP PT g73 g83 g34
    have g106 := ok_ff (P := P) (w := w) (base := base)  d84 TP PT g85 g92 g101 g102 g100 g94 g103
    have g107 := ok_cut (P := P) (w := w) (base := base) (C := C) d63 PT g82 MP
    have g108 := ok_pax (P := P) (w := w) (base := base)  d64 TP PT g32 g77
    have g109 := ok_chx (P := P) (w := w) (base := base)  d85 PT g83 g78
    have g110 := ok_rex (P := P) (w := w) (base := base)  d86 PT J g89 g84 g12 g104 g105 g106 g9
    have g111 := ok_unx (P := P) (w := w) (base := base)  d87 PT J g89 g84 g83 g109 g106
    have g112 := ok_fsx (P := P) (w := w) (base := base)  d88 TP PT g89 g84 g81 g111
    have g113 := ok_isx (P := P) (w := w) (base := base)  d89 g112
    have g114 := ok_udx (P := P) (w := w) (base := base)  d90 PT g109 g105 g107 g84 g108
    have g115 := ok_moments (P := P) (w := w) (base := base)  d93 TP gdr
    have g116 := ok_kinds (P := P) (w := w) (base := base)  d91 TP gdr gch g16
    have g117 := ok_calls (P := P) (w := w) (base := base)  d92 TP gdr gch
    have g118 := ok_lplan (P := P) (w := w) (base := base)  d94 TP MP g25
    have g119 := ok_lfleet (P := P) (w := w) (base := base)  d95 TF MF M3 g48 MA
    have g120 := ok_small (P := P) (w := w) (base := base)  d96 TP gdr g16 g116 g117 g115 g24
    have g121 := ok_te (P := P) (w := w) (base := base)  d97 TP XU XE XI XM XO W9 g110 g111 g114 g112 g113
    have g122 := ok_num (P := P) (w := w) (base := base)  d98 TP g121
    have M20 := mak0 (CI := CI) NN J.cC m1 m2 (K54C.body_cinit (P := P) (w := w) (base := base) TC J (by assumption) (by assumption) (by assumption))
    have g125 := ok_arg (P := P) (w := w) (base := base)  d99 TC J M20 g121
    exact fnG_of F sc_law (fun vs H Q E h => by obtain ⟨a, ns, rfl, _⟩ := h; rfl) fun cdv A outer s H vs Q E g hr h =>
      let ⟨t, a, q⟩ := body_law TP TF PT PE2 J g12 g84 g13 g120 g118 g119 g121 g122 g125 g86 MA0 fa cdv A outer s H vs Q E (guards_deeper g) hr h
      ⟨t, a.nox, q⟩
theorem walk {l : PySem.W.OpenLaw} {q : Program} {loose : List Str} {XP : (Str → Option Value) → Heap → Prop} {YP : World → Heap → Prop} {d : DefRec} {K : Params → PySem.W.Frag} (hn : l.most = some 63) (hdf : d.params.defaults = [])
    (hY : ∀ (w : World) (h : Heap), YP w h → (K w.params).In h)
    (F : ∀ (w : World) (mg : Str → Option Value) (fa : Addr) (h : Heap), (K w.params).In h → h.Ns mainGlobals mg → mg d.name = some (.ref fa) → XP mg h →
      ∃ fd : FuncData, (∀ (s : Shared) (u : Value), BindsTo s fd ⟨[u], []⟩ [("script", u)]) ∧ ∀ base : Heap, (K w.params).In base → base.Ns mainGlobals mg → FnG l.prog w (K w.params) mg base CX0 19 fa fd ["script"] (spLaw (K w.params))) :
    PySem.W.WalkO q loose XP YP l.row.toRowW d [] (fun f vs => PySem.call f vs) :=
  walk_ofG (n := 63) (k := 19) (x := "script") (CX := fun _ => CX0) (sp := fun w => spLaw (K w.params)) hn (by decide) hdf ⟨rfl, by decide, by decide⟩ hY F (fun _ _ a ns hl _ hS => ⟨a, ns, rfl, hS, hl, fun _ => rfl⟩) fun _ _ _ _ _ z => z
end K54
open PySem PySem.W PyProof.Rows
local macro_rules | `(tactic| walk_at "dk") => `(tactic| (refine' Jg.DefK.of (by assumption) (by assumption) ?a ?l ?c ?k; (case a => k_is); (case l => k_is); (case c => k_is); (case k => k_is)))
local macro_rules | `(tactic| walk_at "mk") => `(tactic| (refine' Jg.MetK.of ?a ?i ?l ?c ?k; (case a => k_is); (case i => k_is); (case l => k_is); (case c => k_is); (case k => k_is)))
local macro_rules | `(tactic| walk_at "pk") => `(tactic| (refine' Jg.PrpK.of ?a ?g ?tk ?rc ?l ?c ?k; (case a => k_is); (case g => k_is); (case tk => k_is); (case rc => k_is); (case l => k_is); (case c => k_is); (case k => k_is)))
local macro_rules | `(tactic| walk_at "ck") => `(tactic| (refine' Jg.CmtK.of ?rd ?ga ?a ?rc ?fi ?l ?c ?k; (case rd => k_is); (case ga => k_is); (case a => k_is); (case rc => k_is); (case fi => k_is); (case l => k_is); (case c => k_is); (case k => k_is)))
local macro_rules | `(tactic| o_head ($_f:ident $K $as $e)) => `(tactic| o_head (Jg.pHook $K $as $e () ()))
local macro_rules | `(tactic| o_head ($_f:ident $K $as $e $ts)) => `(tactic| o_head (Jg.pmHook $K $as $e $ts ()))
def PySem.W.Fast.tw13504479523363513504 : Unit := ()
def PySem.W.Fast.tw16185747271705561280 : Unit := ()
def PySem.W.Fast.tw480241791604833665 : Unit := ()
def PySem.W.Fast.tw9822718815787746721 : Unit := ()
def PySem.W.Fast.tw17447939511023405378 : Unit := ()
def PySem.W.Fast.tw12046637245785149508 : Unit := ()
def PySem.W.Fast.tw6302608042939608325 : Unit := ()
def PySem.W.Fast.tw7605173745642303782 : Unit := ()
def PySem.W.Fast.tw18316619884892410630 : Unit := ()
def PySem.W.Fast.tw13863719262541740039 : Unit := ()
def PySem.W.Fast.tw3571430108053834119 : Unit := ()
def PySem.W.Fast.tw4005780202071938599 : Unit := ()
def PySem.W.Fast.tw11345994453344185255 : Unit := ()
def PySem.W.Fast.tw6881135844106576232 : Unit := ()
def PySem.W.Fast.tw2352169238166824074 : Unit := ()
def PySem.W.Fast.tw12386530694495168042 : Unit := ()
def PySem.W.Fast.tw6580326226986413834 : Unit := ()
def PySem.W.Fast.tw17458968041790972203 : Unit := ()
def PySem.W.Fast.tw2537250717290990573 : Unit := ()
def PySem.W.Fast.tw12930623618313035886 : Unit := ()
def PySem.W.Fast.tw519510787154754799 : Unit := ()
def PySem.W.Fast.tw10513690088190239536 : Unit := ()
def PySem.W.Fast.tw3609490796776694672 : Unit := ()
def PySem.W.Fast.tw9055225988319129874 : Unit := ()
def PySem.W.Fast.tw6580520128906408498 : Unit := ()
def PySem.W.Fast.tw12526569057933922035 : Unit := ()
def PySem.W.Fast.tw18385707015067128659 : Unit := ()
def PySem.W.Fast.tw5847723062135945300 : Unit := ()
def PySem.W.Fast.tw14009117404866373431 : Unit := ()
def PySem.W.Fast.tw4693267167291995772 : Unit := ()
def PySem.W.Fast.tw250232998784190590 : Unit := ()
def PySem.W.Fast.tw7697804469522631390 : Unit := ()
def PySem.W.Fast.tw15135169836862402911 : Unit := ()
def PySem.W.Fast.tw610698339655395007 : Unit := ()
set_option maxRecDepth 100000 in
set_option maxHeartbeats 0 in
theorem PySem.Challenge.cw_gaplesskeys_k54_wrong_taking_back_holds : PySem.Challenge.rw_gaplesskeys_k54_wrong_taking_back.Holds := by
  w_on; o_law; k_head; (case hw => w_witness2)
  k_fill
  refine K54.walk (l := PySem.Challenge.rw_gaplesskeys_k54_wrong_taking_back) rfl rfl (fun w h Y => Jg.p_in_of Y) ?F
  case F =>
    intro w mg fa h KX G hmg XP
    refine' K54.fin hmg ?TC ?J ?TK ?TF ?T4 ?RT ?TP ?PT ?PE2 ?W9 ?m1 ?m2 ?m3 ?m4 ?m5 ?m6 ?m7 ?m8 ?m9 ?m10 ?XI ?XU ?XK ?XO ?XA ?XM ?XE ?NN ?NK ?NA ?d1 ?d2 ?d3 ?d4 ?d5 ?d6 ?d7 ?d8 ?d9 ?d10 ?d11 ?d12 ?d13 ?d14 ?d15 ?d16 ?d17 ?d18 ?d19 ?d20 ?d21 ?d22 ?d23 ?d24 ?d25 ?d26 ?d27 ?d28 ?d29 ?d30 ?d31 ?d32 ?d33 ?d34 ?d35 ?d36 ?d37 ?d38 ?d39 ?d40 ?d41 ?d42 ?d43 ?d44 ?d45 ?d46 ?d47 ?d48 ?d49 ?d50 ?d51 ?d52 ?d53 ?d54 ?d55 ?d56 ?d57 ?d58 ?d59 ?d60 ?d61 ?d62 ?d63 ?d64 ?d65 ?d66 ?d67 ?d68 ?d69 ?d70 ?d71 ?d72 ?d73 ?d74 ?d75 ?d76 ?d77 ?d78 ?d79 ?d80 ?d81 ?d82 ?d83 ?d84 ?d85 ?d86 ?d87 ?d88 ?d89 ?d90 ?d91 ?d92 ?d93 ?d94 ?d95 ?d96 ?d97 ?d98 ?d99 ?d100
    case TC =>
      refine' K54.K54C_Txt_of KX G ?TCb_isinstance ?TCb_int ?TCb_bool ?TCb_str ?TCb_list ?TCb_tuple ?TCb_dict ?TCb_len ?TCb_all ?TCb_any ?TCb_set ?TCb_sorted ?TCb_max ?TCb_min ?TCb_range ?TCb_repr ?TCb_sum ?TCg_MOST_ROLES ?TCg_MOST_ACCEPTED ?TCg_MOST_VOUCHERS ?TCg_MOST_NEEDED
      (case TCg_MOST_ROLES => k_is)
      (case TCg_MOST_ACCEPTED => k_is)
      (case TCg_MOST_VOUCHERS => k_is)
      (case TCg_MOST_NEEDED => k_is)
      all_goals (first | k_is | kit_is | rfl)
    case J =>
      refine' K54.K54C_CTx_of KX G ?Jcl1 ?Jcl2 ?Jcl3 ?Jcl4 ?JcC ?Jcls_ ?Jcgt ?Jctk ?Jmro ?Jne ?JkCC ?JkN ?JkI ?JkS ?JkL ?JkT ?JkD ?JoCC ?JoN ?JoI ?JoS ?JoL ?JoT ?JoD ?Jnu ?Jnv ?Jnn ?Jns
      (case JcC => k_is)
      all_goals (first | k_is | kit_is | rfl)
    case TK =>
      refine' K54.K54F_Txt_of KX G ?TKcl1 ?TKcl2 ?TKcl3 ?TKcl4 ?TKng ?TKna ?TKns ?TKcKind ?TKgLONGEST ?TKb_isinstance ?TKb_int ?TKb_bool ?TKb_str ?TKb_tuple ?TKb_len ?TKb_max ?TKb_min ?TKb_range ?TKb_repr ?TKgMOST_KINDS ?TKg_LONGEST_CHAIN ?TKb_any ?TKb_set ?TKb_dict ?TKb_list ?TKb_sorted ?TKcls_ ?TKcgt ?TKctk ?TKmro ?TKne ?TKkCC ?TKkN ?TKkI ?TKkS ?TKkL ?TKkT ?TKkD ?TKoCC ?TKoN ?TKoI ?TKoS ?TKoL ?TKoT ?TKoD
      (case TKcKind => k_is)
      (case TKgLONGEST => first | exact Jg.loose_int XP (List.Mem.head _) | exact Jg.loose_int XP (List.Mem.tail _ (List.Mem.head _)) | exact Jg.loose_int XP (List.Mem.tail _ (List.Mem.tail _ (List.Mem.head _))))
      (case TKgMOST_KINDS => k_is)
      (case TKg_LONGEST_CHAIN => k_is)
      all_goals (first | k_is | kit_is | rfl)
    case TF =>
      refine' K54.K54F_FTx_of KX G ?TFcl1 ?TFcl2 ?TFcl3 ?TFcl4 ?TFnk ?TFnc ?TFcFleet ?TFns ?TFfn1 ?TFfn2
      (case TFcFleet => k_is)
      (case TFfn1 => k_is)
      all_goals (first | k_is | kit_is | rfl)
    case T4 =>
      refine' K54.K54F_TxM_of KX G ?T4gMOST_CALLS ?T4b_zip
      (case T4gMOST_CALLS => k_is)
      all_goals (first | k_is | kit_is | rfl)
    case RT =>
      refine' K54.K54R_Txt_of KX G ?RTcl1 ?RTcl2 ?RTcl3 ?RTcl4 ?RTnl ?RTnh ?RTsf ?RTcRange ?RTgBOUND ?RTb_isinstance ?RTb_int ?RTb_bool ?RTb_str ?RTb_len ?RTb_max ?RTb_min ?RTb_range ?RTb_repr ?RTb_sorted ?RTb_set ?RTcls_ ?RTcgt ?RTctk ?RTmro ?RTkCC ?RTkN ?RTkB ?RTkI ?RTkS ?RTkL ?RTkT ?RTkD ?RTkCi ?RToCC
      (case RTcRange => k_is)
      (case RTgBOUND => first | exact Jg.loose_int XP (List.Mem.head _) | exact Jg.loose_int XP (List.Mem.tail _ (List.Mem.head _)) | exact Jg.loose_int XP (List.Mem.tail _ (List.Mem.tail _ (List.Mem.head _))))
      all_goals (first | k_is | kit_is | rfl)
    case TP =>
      refine' K54.TxP_of KX G ?TPg_LAST_MOMENT ?TPgMOST_EDITIONS ?TPb_isinstance ?TPb_tuple ?TPb_list ?TPb_len ?TPb_enumerate ?TPb_range ?TPb_zip ?TPb_max ?TPb_min ?TPb_repr
      (case TPg_LAST_MOMENT => first | exact Jg.loose_int XP (List.Mem.head _) | exact Jg.loose_int XP (List.Mem.tail _ (List.Mem.head _)) | exact Jg.loose_int XP (List.Mem.tail _ (List.Mem.tail _ (List.Mem.head _))))
      (case TPgMOST_EDITIONS => k_is)
      all_goals (first | k_is | kit_is | rfl)
    case PT =>
      refine' K54.PTx_of KX G ?PTcl1 ?PTcl2 ?PTcl3 ?PTcl4 ?PTcPlan ?PTne
      (case PTcPlan => k_is)
      all_goals (first | k_is | kit_is | rfl)
    case PE2 =>
      refine' K54.PEx_of KX G ?PE2cls_ ?PE2cgt ?PE2ctk ?PE2mro ?PE2ne ?PE2kCC ?PE2oCC
      all_goals (first | k_is | kit_is | rfl)
    (case m1 => k_is); (case m2 => k_is)
    (case m3 => k_is); (case m4 => k_is)
    (case m5 => k_is); (case m6 => k_is)
    (case m7 => k_is); (case m8 => k_is)
    (case m9 => k_is); (case m10 => k_is)
    case XI =>
      refine' K54.ExnF_of KX G PySem.F.excBase_ValueError PySem.F.store_ValueError ?XXIaI ?XXIxI ?XXIxO ?XXIsa ?XXIexC ?XXItyC ?XXIkC ?XXIga ?XXIgg ?XXIhdC ?XXIha ?XXIhn ?XXIht ?XXIhm ?XXIno ?XXIiI ?XXItI ?XXIl ?XXIc ?XXIk ?XXIsC
      (case XXIaI => k_is); (case XXIxI => first | decide +kernel | rfl); (case XXIxO => first | decide +kernel | rfl); (case XXIsa => k_is); (case XXIexC => k_is); (case XXItyC => k_is); (case XXIkC => k_is); (case XXIga => k_is); (case XXIgg => k_is); (case XXIhdC => k_is); (case XXIha => k_is); (case XXIhn => k_is); (case XXIht => k_is); (case XXIhm => k_is)
      (case XXIno => k_is); (case XXIiI => k_is); (case XXItI => k_is); (case XXIl => k_is); (case XXIc => k_is); (case XXIk => k_is); (case XXIsC => first | rfl | k_is)
    case XU =>
      refine' K54.ExnF_of KX G PySem.F.excBase_LookupError PySem.F.store_LookupError ?XXUaI ?XXUxI ?XXUxO ?XXUsa ?XXUexC ?XXUtyC ?XXUkC ?XXUga ?XXUgg ?XXUhdC ?XXUha ?XXUhn ?XXUht ?XXUhm ?XXUno ?XXUiI ?XXUtI ?XXUl ?XXUc ?XXUk ?XXUsC
      (case XXUaI => k_is); (case XXUxI => first | decide +kernel | rfl); (case XXUxO => first | decide +kernel | rfl); (case XXUsa => k_is); (case XXUexC => k_is); (case XXUtyC => k_is); (case XXUkC => k_is); (case XXUga => k_is); (case XXUgg => k_is); (case XXUhdC => k_is); (case XXUha => k_is); (case XXUhn => k_is); (case XXUht => k_is); (case XXUhm => k_is)
      (case XXUno => k_is); (case XXUiI => k_is); (case XXUtI => k_is); (case XXUl => k_is); (case XXUc => k_is); (case XXUk => k_is); (case XXUsC => first | rfl | k_is)
    case XK =>
      refine' K54.ExnF_of KX G PySem.F.excBase_ValueError PySem.F.store_ValueError ?XXKaI ?XXKxI ?XXKxO ?XXKsa ?XXKexC ?XXKtyC ?XXKkC ?XXKga ?XXKgg ?XXKhdC ?XXKha ?XXKhn ?XXKht ?XXKhm ?XXKno ?XXKiI ?XXKtI ?XXKl ?XXKc ?XXKk ?XXKsC
      (case XXKaI => k_is); (case XXKxI => first | decide +kernel | rfl); (case XXKxO => first | decide +kernel | rfl); (case XXKsa => k_is); (case XXKexC => k_is); (case XXKtyC => k_is); (case XXKkC => k_is); (case XXKga => k_is); (case XXKgg => k_is); (case XXKhdC => k_is); (case XXKha => k_is); (case XXKhn => k_is); (case XXKht => k_is); (case XXKhm => k_is)
      (case XXKno => k_is); (case XXKiI => k_is); (case XXKtI => k_is); (case XXKl => k_is); (case XXKc => k_is); (case XXKk => k_is); (case XXKsC => first | rfl | k_is)
    case XO =>
      refine' K54.ExnF_of KX G PySem.F.excBase_OverflowError PySem.F.store_OverflowError ?XXOaI ?XXOxI ?XXOxO ?XXOsa ?XXOexC ?XXOtyC ?XXOkC ?XXOga ?XXOgg ?XXOhdC ?XXOha ?XXOhn ?XXOht ?XXOhm ?XXOno ?XXOiI ?XXOtI ?XXOl ?XXOc ?XXOk ?XXOsC
      (case XXOaI => k_is); (case XXOxI => first | decide +kernel | rfl); (case XXOxO => first | decide +kernel | rfl); (case XXOsa => k_is); (case XXOexC => k_is); (case XXOtyC => k_is); (case XXOkC => k_is); (case XXOga => k_is); (case XXOgg => k_is); (case XXOhdC => k_is); (case XXOha => k_is); (case XXOhn => k_is); (case XXOht => k_is); (case XXOhm => k_is)
      (case XXOno => k_is); (case XXOiI => k_is); (case XXOtI => k_is); (case XXOl => k_is); (case XXOc => k_is); (case XXOk => k_is); (case XXOsC => first | rfl | k_is)
    case XA =>
      refine' K54.ExnF_of KX G PySem.F.excBase_ValueError PySem.F.store_ValueError ?XXAaI ?XXAxI ?XXAxO ?XXAsa ?XXAexC ?XXAtyC ?XXAkC ?XXAga ?XXAgg ?XXAhdC ?XXAha ?XXAhn ?XXAht ?XXAhm ?XXAno ?XXAiI ?XXAtI ?XXAl ?XXAc ?XXAk ?XXAsC
      (case XXAaI => k_is); (case XXAxI => first | decide +kernel | rfl); (case XXAxO => first | decide +kernel | rfl); (case XXAsa => k_is); (case XXAexC => k_is); (case XXAtyC => k_is); (case XXAkC => k_is); (case XXAga => k_is); (case XXAgg => k_is); (case XXAhdC => k_is); (case XXAha => k_is); (case XXAhn => k_is); (case XXAht => k_is); (case XXAhm => k_is)
      (case XXAno => k_is); (case XXAiI => k_is); (case XXAtI => k_is); (case XXAl => k_is); (case XXAc => k_is); (case XXAk => k_is); (case XXAsC => first | rfl | k_is)
    case XM =>
      refine' K54.ExnF_of KX G PySem.F.excBase_ValueError PySem.F.store_ValueError ?XXMaI ?XXMxI ?XXMxO ?XXMsa ?XXMexC ?XXMtyC ?XXMkC ?XXMga ?XXMgg ?XXMhdC ?XXMha ?XXMhn ?XXMht ?XXMhm ?XXMno ?XXMiI ?XXMtI ?XXMl ?XXMc ?XXMk ?XXMsC
      (case XXMaI => k_is); (case XXMxI => first | decide +kernel | rfl); (case XXMxO => first | decide +kernel | rfl); (case XXMsa => k_is); (case XXMexC => k_is); (case XXMtyC => k_is); (case XXMkC => k_is); (case XXMga => k_is); (case XXMgg => k_is); (case XXMhdC => k_is); (case XXMha => k_is); (case XXMhn => k_is); (case XXMht => k_is); (case XXMhm => k_is)
      (case XXMno => k_is); (case XXMiI => k_is); (case XXMtI => k_is); (case XXMl => k_is); (case XXMc => k_is); (case XXMk => k_is); (case XXMsC => first | rfl | k_is)
    case XE =>
      refine' K54.ExnF_of KX G PySem.F.excBase_LookupError PySem.F.store_LookupError ?XXEaI ?XXExI ?XXExO ?XXEsa ?XXEexC ?XXEtyC ?XXEkC ?XXEga ?XXEgg ?XXEhdC ?XXEha ?XXEhn ?XXEht ?XXEhm ?XXEno ?XXEiI ?XXEtI ?XXEl ?XXEc ?XXEk ?XXEsC
      (case XXEaI => k_is); (case XXExI => first | decide +kernel | rfl); (case XXExO => first | decide +kernel | rfl); (case XXEsa => k_is); (case XXEexC => k_is); (case XXEtyC => k_is); (case XXEkC => k_is); (case XXEga => k_is); (case XXEgg => k_is); (case XXEhdC => k_is); (case XXEha => k_is); (case XXEhn => k_is); (case XXEht => k_is); (case XXEhm => k_is)
      (case XXEno => k_is); (case XXEiI => k_is); (case XXEtI => k_is); (case XXEl => k_is); (case XXEc => k_is); (case XXEk => k_is); (case XXEsC => first | rfl | k_is)
    case NN =>
      refine' K54.Ini_NN ?NNNa ?NNNi ?NNNl ?NNNc ?NNNk ?NNNd0 ?NNNd1
      (case NNNa => k_is); (case NNNi => k_is); (case NNNl => k_is); (case NNNc => k_is); (case NNNk => k_is); (case NNNd0 => k_is); (case NNNd1 => k_is)
    case NK =>
      refine' K54.Ini_NK ?NNKa ?NNKi ?NNKl ?NNKc ?NNKk ?NNKd0 ?NNKd1
      (case NNKa => k_is); (case NNKi => k_is); (case NNKl => k_is); (case NNKc => k_is); (case NNKk => k_is); (case NNKd0 => k_is); (case NNKd1 => k_is)
    case NA =>
      refine' K54.Mth_NA ?NNAa ?NNAi ?NNAl ?NNAc ?NNAk ?NNAd0
      (case NNAa => k_is); (case NNAi => k_is); (case NNAl => k_is); (case NNAc => k_is); (case NNAk => k_is); (case NNAd0 => k_is)
    case W9 =>
      refine' K54.TstR_of KX G ?W9bL ?W9bO ?W9gG ?W9xEU ?W9xIU ?W9xIE ?W9xMU ?W9xME ?W9xMI ?W9xOU ?W9xOE ?W9xOI ?W9xOM ?W9kU ?W9kE ?W9kIG ?W9kMG ?W9kOO
      (case W9gG => k_is)
      all_goals (first | k_is | kit_is | rfl)
    (case d1 => walk_at "dk")
    (case d2 => walk_at "dk")
    (case d3 => walk_at "dk")
    (case d4 => walk_at "dk")
    (case d5 => walk_at "dk")
    (case d6 => walk_at "dk")
    (case d7 => walk_at "dk")
    (case d8 => walk_at "pk")
    (case d9 => walk_at "dk")
    (case d10 => walk_at "dk")
    (case d11 => walk_at "dk")
    (case d12 => walk_at "dk")
    (case d13 => walk_at "dk")
    (case d14 => walk_at "dk")
    (case d15 => walk_at "dk")
    (case d16 => walk_at "dk")
    (case d17 => walk_at "dk")
    (case d18 => walk_at "dk")
    (case d19 => walk_at "mk")
    (case d20 => walk_at "mk")
    (case d21 => walk_at "mk")
    (case d22 => walk_at "mk")
    (case d23 => walk_at "mk")
    (case d24 => walk_at "dk")
    (case d25 => walk_at "dk")
    (case d26 => walk_at "dk")
    (case d27 => walk_at "dk")
    (case d28 => walk_at "dk")
    (case d29 => walk_at "dk")
    (case d30 => walk_at "pk")
    (case d31 => walk_at "pk")
    (case d32 => walk_at "pk")
    (case d33 => walk_at "dk")
    (case d34 => walk_at "dk")
    (case d35 => walk_at "mk")
    (case d36 => walk_at "mk")
    (case d37 => walk_at "mk")
    (case d38 => walk_at "mk")
    (case d39 => walk_at "mk")
    (case d40 => walk_at "mk")
    (case d41 => walk_at "mk")
    (case d42 => walk_at "dk")
    (case d43 => walk_at "dk")
    (case d44 => walk_at "mk")
    (case d45 => walk_at "mk")
    (case d46 => walk_at "mk")
    (case d47 => walk_at "ck")
    (case d48 => walk_at "dk")
    (case d49 => walk_at "dk")
    (case d50 => walk_at "dk")
    (case d51 => walk_at "dk")
    (case d52 => walk_at "dk")
    (case d53 => walk_at "dk")
    (case d54 => walk_at "dk")
    (case d55 => walk_at "dk")
    (case d56 => walk_at "mk")
    (case d57 => walk_at "mk")
    (case d58 => walk_at "mk")
    (case d59 => walk_at "mk")
    (case d60 => walk_at "mk")
    (case d61 => walk_at "mk")
    (case d62 => walk_at "mk")
    (case d63 => walk_at "mk")
    (case d64 => walk_at "mk")
    (case d65 => walk_at "dk")
    (case d66 => walk_at "dk")
    (case d67 => walk_at "dk")
    (case d68 => walk_at "dk")
    (case d69 => walk_at "dk")
    (case d70 => walk_at "dk")
    (case d71 => walk_at "dk")
    (case d72 => walk_at "dk")
    (case d73 => walk_at "dk")
    (case d74 => walk_at "dk")
    (case d75 => walk_at "dk")
    (case d76 => walk_at "dk")
    (case d77 => walk_at "dk")
    (case d78 => walk_at "dk")
    (case d79 => walk_at "dk")
    (case d80 => walk_at "dk")
    (case d81 => walk_at "dk")
    (case d82 => walk_at "dk")
    (case d83 => walk_at "dk")
    (case d84 => walk_at "dk")
    (case d85 => walk_at "dk")
    (case d86 => walk_at "dk")
    (case d87 => walk_at "dk")
    (case d88 => walk_at "dk")
    (case d89 => walk_at "dk")
    (case d90 => walk_at "dk")
    (case d91 => walk_at "dk")
    (case d92 => walk_at "dk")
    (case d93 => walk_at "dk")
    (case d94 => walk_at "dk")
    (case d95 => walk_at "dk")
    (case d96 => walk_at "dk")
    (case d97 => walk_at "dk")
    (case d98 => walk_at "dk")
    (case d99 => walk_at "dk")
    (case d100 => walk_at "dk")
#print axioms PySem.Challenge.cw_gaplesskeys_k54_wrong_taking_back_holds
