import PyProof.Rows.All
import Wide.All
import OpenK.AllK
import Wide.FinOn
import HandS.ForMost
import HandS.IsInst
import HandS.ClsMeth
import HandS.Property
import HandS.Strs
import HandS.Wide
import PyProof.LongRange
import HandS.Exc
import PyProof.Rows.NestShow
import HandS.SetFor
import HandS.ExcInit
import HandS.ExcField
import HandS.ExcOwn
import HandS.WordsExc
import KE.KExcIs
import HandS.Small
import PyProof.Rows.Range3
import KE.KExcInit
import HandS.MakeKwOnly
import PyProof.ExcBaseAll.LookupError
import PyProof.ExcBaseAll.ValueError
import PyProof.ExcBaseAll.OverflowError
import PyProof.ExcBaseAll.RuntimeError
import PyProof.InstEq
import PyProof.EqKinds
import KE.KEqDict
import PyProof.CallStr
import KE.KOpsOwn
import HandS.List
import HandS.Dict
import HandS.DictEq
import PyProof.Rows.SortStr
import PyProof.Rows.StrMeet
import HandS.More
import HandS.Replace
import HandS.Text
import PyProof.ListStr
import PyProof.StrOps2
import KE.SortData
import PyProof.ReprRoads
import HandS.Style
import HandS.TupSets
import PyProof.SeqIndex
import HandS.ExcIs
import HandS.Codes
import HandS.TryOnly
import HandS.RaiseMore
import HandS.Walk
import HandS.Steps
import HandS.Star
import HandS.StrMore
import KE.RegKIsAll
import PyProof.ReprBulk
import HandS.Zip
import PySem.Challenge.RW_gaplesskeys_k14_calls_of_a_fleet
set_option Elab.async false
set_option linter.all false
set_option maxRecDepth 100000
set_option maxHeartbeats 4000000
/-! own rules: own operators, long ranges, a class held by a local name, a classmethod without arguments -/
namespace Jg
open PySem PySem.Spec PyProof.Rows L2

section
variable {X : Cx} {CX : CXT} {n k : Nat} {C f : Addr} {fd : FuncData} {ps : List Str} {sp : Sp} {E : XK} {dvs : List V} {ds : List Value}
/-- what an own method must be to serve an operator -/
structure Own (K : PySem.W.Frag) (C : Addr) (m : Str) (f : Addr) : Prop where
  at_ : PySem.W.findIn K (.ref C) m = some (some (.ref f))
  fn : PySem.W.isFn K (.ref f) = true
theorem back_of {pins : List (Addr × Obj)} {σ : L2.St} {Q : VK} {v : Value} {s : Shared} (h : EP X pins σ Q v s) : PySem.W.CmpBack (EP X pins σ Q) v s := by
  obtain ⟨x, H', I, r, q⟩ := h
  cases v <;> first
    | exact ⟨x, H', I, r, q⟩
    | (exfalso; cases x <;> simp [L2.RelV] at r)
/-- x == y, x < y .. by the own method of x -/
def rOwn (K : PySem.W.Frag) (C : Addr) (sp : Sp) (E : XK) : R2 := fun x y H Q => ∃ a dx fs t, x = .ref a ∧ H a = some (.ins C dx fs) ∧ TyX K H y t ∧ PySem.W.notFirst K C t = true ∧ sp [.ref a, y] H Q E
theorem op_own {op : CmpOp} (F : FnOk X.prog X.w X.K X.mg X.base CX n f fd ps sp) (hr : Room n X.A) (o : Own X.K C (cmpInfo op).2.1 f) (hb : Binds X.K fd ps []) (hx : Passes CX X E)
    (hc : ∀ v u, compareOp op v u = richCompare op v u := by intro _ _; rfl) : OpR X (compareOp op) (rOwn X.K C sp E) := by
  intro pins s σ H x y v u Q I rx ry h
  obtain ⟨a, dx, fs, t, rfl, ha, ty, nf, q⟩ := h
  cases rx
  obtain ⟨mA, J, _⟩ := ins_get I.hok ha
  obtain ⟨od, J, _⟩ := J.look
  obtain ⟨m, hF⟩ := I.fr
  obtain ⟨P, Z, p, _⟩ := kit_of I ry ty
  rw [hc]
  refine PySem.W.cmp_K (op := op) (tb := t) hr.units0 hF I.ok.mod.kin J (Z.ty _ _ I.kIn p) nf o.at_ o.fn ?_
  exact wpAny_mono (run_fn (us := [.ref a, u]) (vs := [.ref a, y]) F hr hb .nil hx I (.cons rfl (.cons ry .nil)) q) (fun _ _ z => back_of z) fun _ _ z => z
/-- x & y, x + y .. of two instances of the class -/
def rOwnB (C : Addr) (sp : Sp) (E : XK) : R2 := fun x y H Q => ∃ a b dx fs dy gs, x = .ref a ∧ y = .ref b ∧ H a = some (.ins C dx fs) ∧ H b = some (.ins C dy gs) ∧ sp [.ref a, .ref b] H Q E
theorem op_ownB {op : Operator} (F : FnOk X.prog X.w X.K X.mg X.base CX n f fd ps sp) (hr : Room n X.A) (o : Own X.K C (PySem.dunder op.info.2) f) (hc : PySem.W.selfFirst X.K C = true) (hb : Binds X.K fd ps []) (hx : Passes CX X E) :
    OpR X (binaryOp op) (rOwnB C sp E) := by
  intro pins s σ H x y v u Q I rx ry h
  obtain ⟨a, b, dx, fs, dy, gs, rfl, rfl, ha, hb', q⟩ := h
  cases rx
  cases ry
  obtain ⟨mA, J, _⟩ := ins_get I.hok ha
  obtain ⟨od, J, _⟩ := J.look
  obtain ⟨mB, J', _⟩ := ins_get I.hok hb'
  obtain ⟨od', J', _⟩ := J'.look
  obtain ⟨m, hF⟩ := I.fr
  refine PySem.W.binop_K (op := op) hF I.ok.mod.kin J J'.type hc o.at_ o.fn ?_
  exact wpAny_mono (run_fn (us := [.ref a, .ref b]) (vs := [.ref a, .ref b]) F hr hb .nil hx I (.cons rfl (.cons rfl .nil)) q) (fun _ _ z => back_of z) fun _ _ z => z
/-- y in x by the own method of x -/
def rOwnIn (C : Addr) (sp : Sp) (E : XK) : R2 := fun y x H Q => ∃ a dx fs, x = .ref a ∧ H a = some (.ins C dx fs) ∧ sp [.ref a, y] H (fun v H' => ∃ b, v = .bl b ∧ Q (.bl b) H') E
def rOwnNotIn (C : Addr) (sp : Sp) (E : XK) : R2 := fun y x H Q => ∃ a dx fs, x = .ref a ∧ H a = some (.ins C dx fs) ∧ sp [.ref a, y] H (fun v H' => ∃ b, v = .bl b ∧ Q (.bl (!b)) H') E
theorem op_ownIn (F : FnOk X.prog X.w X.K X.mg X.base CX n f fd ps sp) (hr : Room n X.A) (o : Own X.K C "__contains__" f) (hb : Binds X.K fd ps []) (hx : Passes CX X E) :
    OpR X (compareOp .In) (rOwnIn C sp E) := by
  intro pins s σ H y x u v Q I ry rx h
  obtain ⟨a, dx, fs, rfl, ha, q⟩ := h
  cases rx
  obtain ⟨mA, J, _⟩ := ins_get I.hok ha
  obtain ⟨od, J, _⟩ := J.look
  obtain ⟨m, hF⟩ := I.fr
  refine PySem.W.in_K hF I.ok.mod.kin J o.at_ o.fn ?_
  refine wpAny_mono (run_fn (us := [.ref a, u]) (vs := [.ref a, y]) F hr hb .nil hx I (.cons rfl (.cons ry .nil)) q) (fun r s' z => ?_) fun _ _ z => z
  obtain ⟨w', H', I', rw', b, rfl, q'⟩ := z
  cases (show r = Value.bool b from rw')
  exact wpAny_truthy_bool ⟨.bl _, H', I', rfl, q'⟩
theorem op_ownNotIn (F : FnOk X.prog X.w X.K X.mg X.base CX n f fd ps sp) (hr : Room n X.A) (o : Own X.K C "__contains__" f) (hb : Binds X.K fd ps []) (hx : Passes CX X E) :
    OpR X (compareOp .NotIn) (rOwnNotIn C sp E) := by
  intro pins s σ H y x u v Q I ry rx h
  obtain ⟨a, dx, fs, rfl, ha, q⟩ := h
  cases rx
  obtain ⟨mA, J, _⟩ := ins_get I.hok ha
  obtain ⟨od, J, _⟩ := J.look
  obtain ⟨m, hF⟩ := I.fr
  refine PySem.W.notIn_K hF I.ok.mod.kin J o.at_ o.fn ?_
  refine wpAny_mono (run_fn (us := [.ref a, u]) (vs := [.ref a, y]) F hr hb .nil hx I (.cons rfl (.cons ry .nil)) q) (fun r s' z => ?_) fun _ _ z => z
  obtain ⟨w', H', I', rw', b, rfl, q'⟩ := z
  cases (show r = Value.bool b from rw')
  exact wpAny_truthy_bool ⟨.bl _, H', I', rfl, q'⟩
end

/-! ### cls(e, ..), cls a local name that holds the class -/
def tMakeL (i : Nat) (C : Addr) (sp : Sp) (dvs : List V) (E : XK) (t : TA) : TE := fun σ H Q => σ[i]? = some (some (.ref C)) ∧ tMake C sp dvs E t σ H Q
section
variable {X : Cx} {CX : CXT} {k i : Nat} {C f : Addr} {fd : FuncData} {ps : List Str} {sp : Sp} {dvs : List V} {ds : List Value} {E : XK} {x : Str} {p pos : Pos} {e : Expr} {es : List Expr} {t : TA}
theorem pe_makeL (M : Mk X.K C f) (F : FnOk X.prog X.w X.K X.mg X.base CX k f fd ps sp) (hr : Room (k + 1) X.A) (hN : X.N[i]? = some x) (hv : Vis X.env.scope x) (hb : Binds X.K fd ps ds) (hd : Vals dvs ds) (hx : Passes CX X E) (ha : PA X (e :: es) t)
    (hdb : (x == ("__debug__" : Str)) = false := by decide) (hcd : (x == ("__classdict__" : Str)) = false := by decide)
    (he : starEach (e :: es) X.env = (false, eval e X.env) :: starEach es X.env := by rfl) (hpl : (backTo pos (starEach es X.env)).any (·.1) = false := by rfl) : PE X (.Call (.Name x p) (e :: es) [] pos) (tMakeL i C sp dvs E t) := by
  refine ⟨fun pins s σ H Q I h => ?_⟩
  obtain ⟨hs, ht⟩ := h
  refine wpAny_Call_Name_kw (thn ((pe_var (pos := p) hN hv hdb hcd).run pins s σ H (fun v H1 => v = .ref C ∧ H1 = H) I ⟨.ref C, hs, rfl, rfl⟩) fun u s1 ⟨v, H1, I1, r1, q1⟩ => ?_)
  obtain ⟨rfl, rfl⟩ := q1
  cases r1
  refine PySem.W.callWith_K (h₀ := X.base) I.ok.mod.kin M.kp (thn (ha.run pos pins s1 σ _ _ I1 ht) fun us s2 ⟨vs, H2, I2, r, q⟩ => ⟨I2.kIn, ?_⟩) he hpl
  exact run_make M F hr hb hd hx I2 r q
end

/-! ### C.m() , m a classmethod, no argument -/
section
open ClX
variable {X : Cx} {CX : CXT} {k : Nat} {C p g : Addr} {mc : Value} {sp : Sp} {E : XK} {o : Expr} {m : Str} {pos apos : Pos} {ta : TE} {pl : Sem Bool}
theorem pe_cmeth0 (he : PE X o ta) (r : CRead X.K C mc) (c : CMet X.K C mc m p g) (F : FnR X.prog X.w X.K X.mg X.base CX k g sp) (hr : Room k X.A) (hx : Passes CX X E)
    (ht : eval (.Call (.Attribute o m apos) [] [] pos) X.env = (do
      let ov ← eval o X.env
      standAt apos.atName
      let (f, first) ← holding [ov] (getMethod ov m pl)
      callWith pos f first (backTo pos (starEach [] X.env)) (backToKw pos (keywordEach [] X.env))) := by rfl) :
    PE X (.Call (.Attribute o m apos) [] [] pos) (tCMeth C sp E ta tNil) := by
  refine ⟨fun pins s σ H Q I h => ?_⟩
  refine PySem.W.methodCall_KW (pl := pl) (thn (he.run pins s σ H _ I h) fun u s1 ⟨x, H1, I1, rx, ex, q⟩ => ?_) ht
  subst ex
  obtain rfl : u = Value.ref C := rx
  refine getmethcm_ok I1 r c fun s2 I2 => ?_
  refine PySem.W.callWith_M0 (K := X.K) (first := []) ⟨pin_at I2, I2.kIn⟩ c.fi ?_
  exact run_cm F hr hx I2 .nil q
end

/-! ### range(a, b) of any size -/
theorem turn_long {P : Program} {w : World} {K : PySem.W.Frag} {tg : Expr} (it : Addr) (lo : Int) (n : Nat) : Turn P w K tg (Itr lo n) [it] it (fun i h => IsLongIter h it (lo + (i : Nat) * 1) ((n : Int) - (i : Nat)) 1) where
  mem := by simp
  obj := fun i h st b hb => by
    have e : b = it := by simpa using hb
    subst e
    exact ⟨_, st, fun v z => by
      have z' : Data.fields _ = Data.cell v := z
      cases z'⟩
  keep := fun i h h' st k => k it (by simp) _ st
  item := by
    intro X hP hw hK hc i pins s σ H E I hf st hg
    subst hP hw hK
    obtain ⟨f0, f1, f2, f3, f4, f5⟩ := hf it (by simp)
    have W := Walks.longrange (prog := X.prog) (w := X.w) (I.ok.hd hc) it lo 1 n
    refine W.item i s _ _ hg st fun v h' tk hv st' kk => ?_
    obtain ⟨t, rfl⟩ := hv
    have I1 : Inv X pins σ H { s with heap := h', toks := tk } := I.turned (fun b o hb e => kk b o (by simpa using hb) e) f0 f1 f3 f4 f5
    refine ⟨_, rfl, go_of (s := { s with heap := h', toks := tk }) (n := "longrange_iterator") st' rfl rfl (by decide) ⟨.int (lo + i), H, I1, ⟨t, ?_⟩, ⟨rfl, rfl⟩, st', fun b hb => (hf b hb).1⟩⟩
    rw [Int.mul_one]
  done := by
    intro X hP hw hK hc i pins s σ H E I hf st hg
    subst hP hw hK
    obtain ⟨f0, f1, f2, f3, f4, f5⟩ := hf it (by simp)
    exact wpAny_pyNext_long_end (I.ok.hd hc) st (by have : n ≤ i := hg; omega) fun h' eb => ⟨rfl, I.turned (t' := s.toks) (fun b o hb e => eb b o hb e) f0 f1 f3 f4 f5⟩
  self := fun _ _ _ _ _ st h => wpAny_pyIter_longiter st h
section
variable {X : Cx} {tg : Expr}
theorem rsize_nat (lo hi : Int) : (((hi - lo).toNat : Nat) : Int) = Builtin.Range.rangeSize lo hi 1 := by
  rw [rangeSize_one]; split <;> omega
theorem rangeW_it {pins : List (Addr × Obj)} {σ : L2.St} {H : Hp} {s : Shared} {R : It → Hp → Prop} {E : Value → Shared → Prop} {lo hi : Int} {t u v : Tok} {tk : Nat} (I : Inv X pins σ H s)
    (q : R (Itr lo (hi - lo).toNat) H) : wpAny (model X.prog X.w) X.A (pyIter (.ref s.heap.objs.size)) (PIE X pins σ tg R) E { s with heap := s.heap.push { cls := .type "range", data := .fields #[.int lo t, .int hi u, .int 1 v] }, toks := tk } := by
  have I1 : Inv X pins σ H { s with heap := s.heap.push { cls := .type "range", data := .fields #[.int lo t, .int hi u, .int 1 v] }, toks := tk } := I.kept fun b o e => Heap.get?_push_of_some _ e
  cases hs : Builtin.Range.small lo hi 1 with
  | true =>
    refine wpAny_pyIter_range (IsRange.new ..) hs ?_
    refine ⟨(s.heap.push { cls := .type "range", data := .fields #[.int lo t, .int hi u, .int 1 v] }).objs.size, [(s.heap.push { cls := .type "range", data := .fields #[.int lo t, .int hi u, .int 1 v] }).objs.size], _, _, H, rfl,
      I1.kept (t' := tk) fun b o e => Heap.get?_push_of_some _ e, turn_range _ lo (hi - lo).toNat, ?_, fun b hb => ?_, q⟩
    · have e1 : lo + ((0 : Nat) : Int) * 1 = lo := by simp
      have e2 : (((hi - lo).toNat : Nat) : Int) - ((0 : Nat) : Int) = Builtin.Range.rangeSize lo hi 1 := by rw [rsize_nat]; simp
      show IsRangeIter _ _ (lo + ((0 : Nat) : Int) * 1) ((((hi - lo).toNat : Nat) : Int) - ((0 : Nat) : Int)) 1
      rw [e1, e2]
      exact Heap.get?_push_size _ rfl
    · have e : b = (s.heap.push { cls := .type "range", data := .fields #[.int lo t, .int hi u, .int 1 v] }).objs.size := by simpa using hb
      subst e
      exact I1.fpOk (Nat.le_refl _) (I1.hok.fresh (Nat.le_refl _))
  | false =>
    refine wpAny_pyIter_longrange (IsRange.new ..) hs ?_
    refine ⟨(s.heap.push { cls := .type "range", data := .fields #[.int lo t, .int hi u, .int 1 v] }).objs.size, [(s.heap.push { cls := .type "range", data := .fields #[.int lo t, .int hi u, .int 1 v] }).objs.size], _, _, H, rfl,
      I1.kept (t' := tk) fun b o e => Heap.get?_push_of_some _ e, turn_long _ lo (hi - lo).toNat, ?_, fun b hb => ?_, q⟩
    · have e1 : lo + ((0 : Nat) : Int) * 1 = lo := by simp
      have e2 : (((hi - lo).toNat : Nat) : Int) - ((0 : Nat) : Int) = Builtin.Range.rangeSize lo hi 1 := by rw [rsize_nat]; simp
      show IsLongIter _ _ (lo + ((0 : Nat) : Int) * 1) ((((hi - lo).toNat : Nat) : Int) - ((0 : Nat) : Int)) 1
      rw [e1, e2]
      exact Heap.get?_push_size _ rfl
    · have e : b = (s.heap.push { cls := .type "range", data := .fields #[.int lo t, .int hi u, .int 1 v] }).objs.size := by simpa using hb
      subst e
      exact I1.fpOk (Nat.le_refl _) (I1.hok.fresh (Nat.le_refl _))
def iRng2W (ta : TA) : TI := fun σ H R => ta σ H fun vs H1 => ∃ i j : Int, vs = [.int i, .int j] ∧ R (Itr i (j - i).toNat) H1
theorem pi_range2W {a b : Expr} {ta : TA} {p pos : Pos} (hg : Gl X "range") (hm : X.mg "range" = none) (ha : PA X [a, b] ta) (hs : starEach [a, b] X.env = [(false, eval a X.env), (false, eval b X.env)] := by rfl) (hs2 : starEach [b] X.env = [(false, eval b X.env)] := by rfl) :
    PI X tg (.Call (.Name "range" p) [a, b] [] pos) (iRng2W ta) := by
  refine ⟨fun pins s σ H R I h => ?_⟩
  refine Call_ (ld_blt I hg hm boot_range (PyProof.Rows.callWith_type1 (thn (ha.run pos pins s σ H _ I h) fun us s1 ⟨vs, H1, I1, r1, q1⟩ => ?_) (by rw [hs, hs2]) (by rw [hs2]; rfl)))
  obtain ⟨i, j, e, q⟩ := q1
  subst e
  cases r1 with
  | cons r rr =>
    cases rr with
    | cons r' rr =>
      cases rr
      obtain ⟨t, rfl⟩ := r
      obtain ⟨t', rfl⟩ := r'
      exact call_range_2 (rangeW_it I1 q)
end
end Jg

/-! defs that are called where no repr is under way, repr of data, and the law's end over such a def -/
namespace Jg
open PySem PySem.Spec PyProof.Rows L2

/-- a def's promise where no repr is under way -/
structure FnG (P : Program) (w : World) (K : PySem.W.Frag) (mg : Str → Option Value) (base : Heap) (CX : CXT) (k : Nat) (f : Addr) (fd : FuncData) (ps : List Str) (sp : Sp) : Prop where
  len : ∀ vs H Q E, sp vs H Q E → vs.length = ps.length
  run : ∀ (A : Around), A.guards = some [] → ∀ (outer : List Env) (s : Shared) (H : Hp) (args : Args) (us : List Value) (vs : List V) (Q : VK) (E : XK), Room k A → Env0 P w K mg base A outer s H → BindsTo s fd args (ps.zip us) → Vals vs us → sp vs H Q E →
    codeAny (model P w) A (.call (.ref f) args) (CR CX outer P w H s Q E) s
theorem FnG.of {P : Program} {w : World} {K : PySem.W.Frag} {mg : Str → Option Value} {base : Heap} {CX : CXT} {k : Nat} {f : Addr} {fd : FuncData} {ps : List Str} {sp : Sp} (F : FnOk P w K mg base CX k f fd ps sp) : FnG P w K mg base CX k f fd ps sp :=
  ⟨F.len, fun A _ => F.run A⟩
theorem FnG.mono {P : Program} {w : World} {K : PySem.W.Frag} {mg : Str → Option Value} {base : Heap} {CX : CXT} {j k : Nat} {f : Addr} {fd : FuncData} {ps : List Str} {sp : Sp} (F : FnG P w K mg base CX j f fd ps sp) (h : j ≤ k) :
    FnG P w K mg base CX k f fd ps sp := ⟨F.len, fun A g outer s H args us vs Q E hr => F.run A g outer s H args us vs Q E (hr.mono h)⟩

section
variable {X : Cx} {CX : CXT} {k : Nat} {f : Addr} {fd : FuncData} {ps : List Str} {sp : Sp} {dvs : List V} {ds : List Value} {E : XK} {x : Str} {p pos : Pos} {e : Expr} {es : List Expr} {t : TA}
theorem run_fnG {pins : List (Addr × Obj)} {σ : L2.St} {H : Hp} {s : Shared} {Q : VK} {us : List Value} {vs : List V} (F : FnG X.prog X.w X.K X.mg X.base CX k f fd ps sp) (g : X.A.guards = some []) (hr : Room k X.A) (hb : Binds X.K fd ps ds) (hd : Vals dvs ds) (hx : Passes CX X E)
    (I : Inv X pins σ H s) (r : Vals vs us) (h : sp (vs ++ dvs) H Q E) : wpAny (model X.prog X.w) X.A (call (.ref f) us) (EP X pins σ Q) X.xe s := by
  have both := r.append hd
  have hl : (us ++ ds).length = ps.length := both.length.symm.trans (F.len _ _ _ _ h)
  have go := F.run X.A g X.stack s H ⟨us, []⟩ (us ++ ds) (vs ++ dvs) Q E hr I.env0 (hb s us I.kIn hl) both h
  refine wpAny_call (codeAny_mono go fun r s' hq => ?_)
  match r, hq with
  | .error e, hq => exact hx pins σ H s e s' I hq
  | .ok (.ret u), hq => exact I.after hq
/-- f(e, ..) -/
theorem pe_callG (F : FnG X.prog X.w X.K X.mg X.base CX k f fd ps sp) (g : X.A.guards = some []) (hr : Room k X.A) (hg : Gl X x) (hm : X.mg x = some (.ref f)) (hk : PySem.W.keepIn X.K (.ref f) = true) (hb : Binds X.K fd ps ds) (hd : Vals dvs ds) (hx : Passes CX X E)
    (ha : PA X (e :: es) t) (hdb : (x == ("__debug__" : Str)) = false := by decide) (he : starEach (e :: es) X.env = (false, eval e X.env) :: starEach es X.env := by rfl) (hpl : (backTo pos (starEach es X.env)).any (·.1) = false := by rfl) :
    PE X (.Call (.Name x p) (e :: es) [] pos) (tCall sp dvs E t) :=
  ⟨fun pins s σ H Q I h => wpAny_Call_Name_kw (ld_glob I hg hm (PySem.W.callWith_K (h₀ := X.base) I.ok.mod.kin hk (thn (ha.run pos pins s σ H _ I h) fun _ _ ⟨_, _, I1, r, q⟩ => ⟨I1.kIn, run_fnG F g hr hb hd hx I1 r q⟩) he hpl) hdb)⟩
end

theorem guards_deeper {A : Around} {e : Env} (h : A.guards = some []) : (A.deeper e).guards = some [] := by
  first | exact h | (unfold Around.deeper; simpa using h)

section
variable {P : Program} {w : World} {K : PySem.W.Frag} {mg : Str → Option Value} {base : Heap}
/-- a def of the text, its body walked where no repr is under way -/
theorem fnG_of {CX : CXT} {k : Nat} {x qual : Str} {st : Stmt} {f : Addr} {fd : FuncData} {N ps : List Str} {sp : Sp} (F : Fun K x qual st f fd) (S : FnScope N ps (defScope st)) (len : ∀ vs H Q E, sp vs H Q E → vs.length = ps.length)
    (hbody : ∀ (cdv : Value) (A : Around) (outer : List Env) (s : Shared) (H : Hp) (vs : List V) (Q : VK) (E : XK), A.guards = some [] → Room k (A.deeper (envOfC qual (defScope st) s.heap.objs.size f cdv)) → sp vs H Q E →
      ∃ t, PSs (cxOf CX P w K mg base N qual (defScope st) f cdv A outer s H E) (defBody st) t ∧ t { nx := fun _ H' => Q .non H', rt := Q } (start N vs) H) : FnG P w K mg base CX (k + 1) f fd ps sp := by
  obtain ⟨oc, od, kV, doc, pm, an, cdv, ct, osl, rfl, lk, hcd⟩ := F.ex
  refine ⟨len, fun A g outer s H args us vs Q E hr e0 hb r hsp => ?_⟩
  have inHeap : K.In s.heap := e0.mod.kin.keeps fun b o e => (e0.bs b o e).1
  have kinds : ∀ y ∈ ps.zip us, (defScope st).names.lookup y.1 = some .local ∨ ((defScope st).names.lookup y.1 = some .cell ∧ ((cellsFrom (s.heap.objs.size + 1) (defScope st).names []).lookup y.1).isSome = true) := fun y hy =>
    (S.par y.1 (List.of_mem_zip hy).1).imp id fun q => ⟨q, PySem.W.cellsFrom_some _ _ _ (.inl q)⟩
  refine codeAny_call_function hr.depth (inHeap _ _ lk) rfl S.co S.gen rfl (PySem.W.codeRec_of inHeap hcd) (hb _ _ _ _ ?_)
  refine wpAny_newFunctionEnv_cells S.kind kinds fun env he s1 y => ?_
  subst he
  obtain ⟨t, ht, hq⟩ := hbody cdv A outer s H vs Q E g (hr.deeper _) hsp
  have I := inv_start (CX := CX) (E := E) S hr.hd e0 (len _ _ _ _ hsp) r y
  refine ⟨(e0.mod.nolimit.keeps fun b o e => (e0.bs b o e).1).keeps y.toInCall.keep, codeAny_func (wpAny_mono (ht.run [] s1 (start N vs) H _ I hq) (fun fl s' hs => ?_) fun _ _ hs => hs)⟩
  match fl, hs with
  | .ret u, ⟨v, _, H', J, rv, q⟩ => exact ⟨v, H', J.os, J.bare, J.base, J.hok, rv, q⟩
  | .next, ⟨_, H', J, q⟩ => exact ⟨.non, H', J.os, J.bare, J.base, J.hok, rfl, q⟩
  | .brk, ⟨_, _, _, q⟩ => exact False.elim q
  | .cont, ⟨_, _, _, q⟩ => exact False.elim q
end

/-! ### repr of data -/
theorem noDict : ∀ (K : PySem.W.Frag) (H : Hp) (d : PyData) (v : V), Dp K H v d → d.hasDict = false := by
  intro K H d v h
  refine Dp.rec (motive_1 := fun _ d _ => d.hasDict = false) (motive_2 := fun _ ds _ => PyData.hasDictAll ds = false) ?_ ?_ ?_ ?_ ?_ ?_ ?_ ?_ h
  · rfl
  · intro b; rfl
  · intro i; rfl
  · intro x; rfl
  · intro a xs ds _ _ ih; exact ih
  · intro a xs ds _ _ ih; exact ih
  · rfl
  · intro v vs d ds _ _ h1 h2
    show (PyData.hasDict d || PyData.hasDictAll ds) = false
    rw [h1, h2]; rfl
def rRepr (K : PySem.W.Frag) : List V → Hp → VK → Prop := fun xs H Q => ∃ a d, xs = [.ref a] ∧ Dp K H (.ref a) d ∧ d.showable = true ∧ d.depth ≤ 40 ∧ d.shown.length ≤ sizeLine ∧ Q (.str d.shown) H
section
variable {X : Cx}
theorem call_reprD (g : X.A.guards = some []) (hu : X.A.units + 64 < cLine) : CallR X (.builtin "repr") (rRepr X.K) := by
  intro pins s σ H xs us Q I r h
  obtain ⟨a, d, rfl, hd, hs, dp, hz, q⟩ := h
  obtain ⟨u, rfl, ru⟩ := vals1 r
  cases ru
  obtain ⟨as, R⟩ := Dp.reads I d (.ref a) (.ref a) hd rfl
  refine repr_of_reads' R hs (PyData.noDict_hsm (noDict _ _ _ _ hd)) g (by omega) (fun _ _ e => e) (fun h' u tk hk => ?_) hz
  exact ⟨.str d.shown, H, I.kept hk, ⟨_, rfl⟩, q⟩
end

/-! ### the end -/
theorem law_callG {P : Program} {w : World} {K : PySem.W.Frag} {mg mb : Str → Option Value} {CX : CXT} {k : Nat} {fa a : Addr} {fd : FuncData} {x : Str} {sp : Sp} {s₁ : Shared} {vs : List Value} {ns : List Int}
    (KX : K.In s₁.heap) (hns : s₁.heap.Ns mainGlobals mg) (hb : s₁.heap.Ns builtinsNs mb) (hbb : ∀ x : Str, x ≠ "__name__" → mb x = bootBuiltins x) (hlim : s₁.heap.NoLimit) (hg : s₁.gens = #[])
    (ha : s₁.heap.get? a = some { cls := .type "list", data := .seq vs.toArray }) (hi : IntsAre vs ns) (hl : ns.length ≤ sizeLine) (hr : Room k callerA)
    (F : ∀ base : Heap, K.In base → base.Ns mainGlobals mg → FnG P w K mg base CX k fa fd [x] sp) (hbind : ∀ (s : Shared) (u : Value), BindsTo s fd ⟨[u], []⟩ [(x, u)])
    (hsp : ∀ H : Hp, Only H → SqL K H a (ns.map V.int) → sp [.ref a] H (fun v _ => v = .bl true) fun _ _ _ => False)
    (hCX : ∀ H e s', CX [] H s₁ (fun _ _ _ => False) e s' → False) :
    codeAny (model P w) callerA (.call (.ref fa) ⟨[.ref a], []⟩) (fun r s' => r = .ok (.ret (.bool true)) ∧ OldK s₁.heap s'.heap ∧ s'.os = s₁.os ∧ AllBare s'.gens) s₁ := by
  have lenV := hi.length
  let scriptO : Obj := { cls := .type "list", data := .seq vs.toArray }
  -- what is tracked: the script, unless it is one of the module's own objects
  let H : Hp := fun b => if b = a ∧ K.lookup a = none then some (.frz scriptO (.lst (ns.map V.int))) else none
  have H1 : ∀ b u, H b = some u → b = a ∧ K.lookup a = none ∧ u = .frz scriptO (.lst (ns.map V.int)) := fun b u e => by
    show b = a ∧ _ ∧ _
    by_cases c : b = a ∧ K.lookup a = none
    · have e' : some (HO.frz scriptO (.lst (ns.map V.int))) = some u := (if_pos c).symm.trans e
      exact ⟨c.1, c.2, (Option.some.inj e').symm⟩
    · have e' : (none : Option HO) = some u := (if_neg c).symm.trans e
      cases e'
  have only : Only H := fun b => by
    cases e : H b with
    | none => exact .inl rfl
    | some u =>
      obtain ⟨_, _, rfl⟩ := H1 b u e
      exact .inr ⟨_, _, rfl⟩
  have seq : SqL K H a (ns.map V.int) := by
    cases hk : K.lookup a with
    | none => exact .inl (.inr ⟨scriptO, if_pos ⟨rfl, hk⟩⟩)
    | some o =>
      have e := KX a o hk
      rw [ha] at e
      cases e
      exact .inr ⟨_, vs.toArray, _, hk, rfl, rfl, rfl, by rw [List.size_toArray, lenV]; exact hl, by simpa using vals_ints hi⟩
  have ok : HOk P w H s₁.heap := fun b u e => by
    obtain ⟨rfl, _, rfl⟩ := H1 b u e
    exact ⟨ha, by rw [List.length_map]; exact hl, vs, _, vals_ints hi, ha⟩
  -- objects of other kinds than the script are not tracked
  have dictFree : ∀ {b : Addr} {o : Obj} {es : Array DictEntry} {ep : Nat}, s₁.heap.get? b = some o → o.data = .dict es ep → H b = none := fun {b o es ep} e d => by
    cases q : H b with
    | none => rfl
    | some u =>
      obtain ⟨rfl, _, _⟩ := H1 b u q
      rw [ha] at e
      cases e
      exact nomatch (show Data.seq vs.toArray _ = Data.dict es ep from d)
  have ns0 : ∀ {b : Addr} {m : Str → Option Value}, s₁.heap.Ns b m → (hidT s₁.heap H).Ns b m := fun {b m} ⟨o, es, ep, e, d, r⟩ => ⟨o, es, ep, hidT_get e (dictFree e d), d, r⟩
  have kin0 : K.In (hidT s₁.heap H) := fun b o e => hidT_get (KX b o e) (by
    cases q : H b with
    | none => rfl
    | some u =>
      obtain ⟨rfl, hk, _⟩ := H1 b u q
      rw [hk] at e; cases e)
  have md : Mod K mg (hidT s₁.heap H) := ⟨kin0, ns0 hns, ⟨mb, ns0 hb, hbb⟩, let ⟨mc, c1, c2⟩ := hlim; ⟨mc, ns0 c1, c2⟩⟩
  have e0 : Env0 P w K mg (hidT s₁.heap H) callerA [] s₁ H := ⟨rfl, md, fun b o e => of_hidT e, Nat.le_of_eq (hidT_size _ _), trivial, fun b hb => absurd (show b ∈ ([] : List Addr) from hb) (by simp), ok, .of_eq hg⟩
  have go := (F _ kin0 (ns0 hns)).run callerA rfl [] s₁ H ⟨[.ref a], []⟩ [.ref a] [.ref a] _ _ hr e0 (hbind s₁ (.ref a)) (.cons rfl .nil) (hsp H only seq)
  refine codeAny_mono go fun r s' h => ?_
  match r, h with
  | .error e, h => exact (hCX H e s' h).elim
  | .ok (.ret u), ⟨v, H', os, bare, un, hok', r', q⟩ =>
    have q' : v = .bl true := q
    subst q'
    cases (show u = Value.bool true from r')
    refine ⟨rfl, OldK.of_keep fun b o e => ?_, os, bare⟩
    cases q : H b with
    | none => exact un.keep b o e q (fun z => absurd (show b ∈ ([] : List Addr) from z) (by simp)) (by simp)
    | some u =>
      obtain ⟨rfl, _, rfl⟩ := H1 b u q
      have w2 := (hok' _ _ (un.frzs _ _ _ q)).1
      rw [ha] at e
      cases e
      exact w2
theorem walk_ofG {l : PySem.W.OpenLaw} {n k : Nat} {q : Program} {loose : List Str} {XP : (Str → Option Value) → Heap → Prop} {YP : World → Heap → Prop} {d : DefRec} {K : Params → PySem.W.Frag} {CX : World → CXT} {sp : World → Sp} {x : Str}
    (hn : l.most = some n) (hn2 : n ≤ sizeLine) (hdf : d.params.defaults = []) (hr : Room k callerA)
    (hY : ∀ (w : World) (h : Heap), YP w h → (K w.params).In h)
    (F : ∀ (w : World) (mg : Str → Option Value) (fa : Addr) (h : Heap), (K w.params).In h → h.Ns mainGlobals mg → mg d.name = some (.ref fa) → XP mg h →
      ∃ fd : FuncData, (∀ (s : Shared) (u : Value), BindsTo s fd ⟨[u], []⟩ [(x, u)]) ∧
        ∀ base : Heap, (K w.params).In base → base.Ns mainGlobals mg → FnG l.prog w (K w.params) mg base (CX w) k fa fd [x] (sp w))
    (hsp : ∀ (w : World) (H : Hp) (a : Addr) (ns : List Int), ns.length ≤ n → Only H → SqL (K w.params) H a (ns.map V.int) → sp w [.ref a] H (fun v _ => v = .bl true) fun _ _ _ => False)
    (hCX : ∀ (w : World) (H : Hp) (s : Shared) (e : Value) (s' : Shared), CX w [] H s (fun _ _ _ => False) e s' → False) :
    PySem.W.WalkO q loose XP YP l.row.toRowW d [] (fun f vs => PySem.call f vs) :=
  Att.attach_call hn hdf fun w _ s₁ mg mb fa _ _ _ _ a vs ns G Y _ _ _ hmg hobj hints hlen hg =>
    let ⟨_, hb, hF⟩ := F w mg fa _ (hY w _ Y) G.T.g hmg G.X
    law_callG (hY w _ Y) G.T.g G.T.b G.T.builtins G.T.nolimit hg hobj hints (Nat.le_trans hlen hn2) hr hF hb (fun H hO hS => hsp w H a ns hlen hO hS) fun H e s' => hCX w H s₁ e s'
/-- a number that the top keeps under a name, whatever its token -/
theorem loose_int {p : Program} {lv : List (Str × PySem.W.WData)} {mg : Str → Option Value} {h : Heap} {x : Str} {i : Int} (X : PySem.W.XL p lv mg h) (hm : (x, PySem.W.WData.int i) ∈ lv) : ∃ u, mg x = some u ∧ L2.RelV (.int i) u := by
  obtain ⟨v, e, r⟩ := X.2.val _ hm
  cases r
  exact ⟨_, e, _, rfl⟩
end Jg

/-! defs, methods, properties and classes by their names: addresses hidden -/
namespace Jg
open PySem PySem.Spec PyProof.Rows L2

theorem iteFe {A D : Prop} {b : Bool} (e : b = false) (h : D) : if b = true then A else D := by rw [e]; exact iteF h
theorem iteTe {A D : Prop} {b : Bool} (e : b = true) (h : A) : if b = true then A else D := by rw [e]; exact iteT h
/-- a def of the module as the top leaves it -/
structure DefK (K : PySem.W.Frag) (mg : Str → Option Value) (x : Str) (st : Stmt) : Prop where
  ex : ∃ f fd, Fun K x x st f fd ∧ mg x = some (.ref f)
theorem DefK.of {K : PySem.W.Frag} {h : Heap} {mg : Str → Option Value} {x : Str} {st : Stmt} {f : Addr} {oc : Value} {od an : Option Addr} {osl : Array (Option Value)} {kV doc pm cdv ct : Value} (X : K.In h) (G : h.Ns mainGlobals mg)
    (a : PySem.W.nsIn K mainGlobals x = some (some (.ref f))) (l : K.lookup f = some ⟨oc, od, .func (PySem.W.fnOf x x (defArgs st) (defBody st) (defScope st) .none kV doc pm an cdv ct), osl⟩)
    (c : PySem.W.codeIn K cdv x = true) (k : PySem.W.keepIn K (.ref f) = true) : DefK K mg x st := ⟨f, _, fun_mk l c k, PySem.W.mg_of X G a⟩
/-- a method of the class at C -/
structure MetK (K : PySem.W.Frag) (C : Addr) (m qual : Str) (st : Stmt) : Prop where
  ex : ∃ f fd, Fun K m qual st f fd ∧ PySem.W.findIn K (.ref C) m = some (some (.ref f)) ∧ PySem.W.isFn K (.ref f) = true
theorem MetK.of {K : PySem.W.Frag} {C : Addr} {m qual : Str} {st : Stmt} {f : Addr} {oc : Value} {od an : Option Addr} {osl : Array (Option Value)} {kV doc pm cdv ct : Value}
    (a : PySem.W.findIn K (.ref C) m = some (some (.ref f))) (i : PySem.W.isFn K (.ref f) = true) (l : K.lookup f = some ⟨oc, od, .func (PySem.W.fnOf m qual (defArgs st) (defBody st) (defScope st) .none kV doc pm an cdv ct), osl⟩)
    (c : PySem.W.codeIn K cdv qual = true) (k : PySem.W.keepIn K (.ref f) = true) : MetK K C m qual st := ⟨f, _, fun_mk l c k, a, i⟩
/-- a property of the class at C -/
structure PrpK (K : PySem.W.Frag) (C : Addr) (m qual : Str) (st : Stmt) : Prop where
  ex : ∃ p f fd, Fun K m qual st f fd ∧ PropOf K C m p f
theorem PrpK.of {K : PySem.W.Frag} {C : Addr} {m qual : Str} {st : Stmt} {p f : Addr} {rest : List Value} {oc : Value} {od an : Option Addr} {osl : Array (Option Value)} {kV doc pm cdv ct : Value}
    (a : PySem.W.findIn K (.ref C) m = some (some (.ref p))) (g : PySem.W.specialIn K (.ref p) "__get__" = some (some (.builtin "property.__get__"))) (tk : PySem.W.takesIn K (.ref p) = some true) (rc : PySem.W.recIn K p "property" = some (.ref f :: rest))
    (l : K.lookup f = some ⟨oc, od, .func (PySem.W.fnOf m qual (defArgs st) (defBody st) (defScope st) .none kV doc pm an cdv ct), osl⟩)
    (c : PySem.W.codeIn K cdv qual = true) (k : PySem.W.keepIn K (.ref f) = true) : PrpK K C m qual st := ⟨p, f, _, fun_mk l c k, ⟨a, g, tk, rest, rc⟩⟩
/-- a classmethod of the class at C -/
structure CmtK (K : PySem.W.Frag) (C : Addr) (mc : Value) (m qual : Str) (st : Stmt) : Prop where
  ex : ∃ p f fd, Fun K m qual st f fd ∧ ClX.CRead K C mc ∧ ClX.CMet K C mc m p f
theorem CmtK.of {K : PySem.W.Frag} {C : Addr} {mc : Value} {m qual : Str} {st : Stmt} {p f : Addr} {rest : List Value} {oc : Value} {od an : Option Addr} {osl : Array (Option Value)} {kV doc pm cdv ct : Value}
    (rd : PySem.W.readsIn K C mc = true) (ga : PySem.W.specialIn K (.ref C) "__getattribute__" = some (some (.builtin "type.__getattribute__")))
    (a : PySem.W.findCls K (.ref C) mc m = some (.get (.builtin "classmethod.__get__") (.ref p) .none (.ref C))) (rc : PySem.W.recIn K p "classmethod" = some (.ref f :: rest)) (fi : PySem.W.fnIn K f = true)
    (l : K.lookup f = some ⟨oc, od, .func (PySem.W.fnOf m qual (defArgs st) (defBody st) (defScope st) .none kV doc pm an cdv ct), osl⟩)
    (c : PySem.W.codeIn K cdv qual = true) (k : PySem.W.keepIn K (.ref f) = true) : CmtK K C mc m qual st := ⟨p, f, _, fun_mk l c k, ⟨rd, ga⟩, ⟨a, ⟨rest, rc⟩, fi⟩⟩

section
variable (P : Program) (w : World) (K : PySem.W.Frag) (mg : Str → Option Value) (base : Heap) (CX : CXT) (k : Nat)
/-- a def that may be called by its name -/
structure Cal (x : Str) (sp : Sp) : Prop where
  ex : ∃ f fd ps, FnOk P w K mg base CX k f fd ps sp ∧ mg x = some (.ref f) ∧ PySem.W.keepIn K (.ref f) = true ∧ Binds K fd ps []
structure CalG (x : Str) (sp : Sp) : Prop where
  ex : ∃ f fd ps, FnG P w K mg base CX k f fd ps sp ∧ mg x = some (.ref f) ∧ PySem.W.keepIn K (.ref f) = true ∧ Binds K fd ps []
/-- a method of the class at C -/
structure Met (C : Addr) (m : Str) (sp : Sp) : Prop where
  ex : ∃ f fd ps, FnOk P w K mg base CX k f fd ps sp ∧ PySem.W.findIn K (.ref C) m = some (some (.ref f)) ∧ PySem.W.isFn K (.ref f) = true ∧ PySem.W.keepIn K (.ref f) = true ∧ Binds K fd ps []
structure Prp (C : Addr) (m : Str) (sp : Sp) : Prop where
  ex : ∃ p f fd ps, FnOk P w K mg base CX k f fd ps sp ∧ PropOf K C m p f ∧ Binds K fd ps []
structure Cmt (C : Addr) (mc : Value) (m : Str) (sp : Sp) : Prop where
  ex : ∃ p f fd ps, FnOk P w K mg base CX k f fd ps sp ∧ ClX.CRead K C mc ∧ ClX.CMet K C mc m p f ∧ Binds K fd ps []
end
theorem CalG.of {P : Program} {w : World} {K : PySem.W.Frag} {mg : Str → Option Value} {base : Heap} {CX : CXT} {k : Nat} {x : Str} {sp : Sp} (c : Cal P w K mg base CX k x sp) : CalG P w K mg base CX k x sp :=
  let ⟨f, fd, ps, F, a⟩ := c.ex
  ⟨f, fd, ps, .of F, a⟩

/-- how a def of the text binds its arguments -/
def BindOk (x qual : Str) (st : Stmt) (ps : List Str) : Prop :=
  ∀ (kV doc pm : Value) (an : Option Addr) (cdv ct : Value) (us : List Value), us.length = ps.length → bindArgs (PySem.W.fnOf x qual (defArgs st) (defBody st) (defScope st) .none kV doc pm an cdv ct) ⟨us, []⟩ = pure (ps.zip us)
/-- what a body must show -/
def BodyOk (CX : CXT) (P : Program) (w : World) (K : PySem.W.Frag) (mg : Str → Option Value) (base : Heap) (N : List Str) (qual : Str) (st : Stmt) (f : Addr) (k : Nat) (sp : Sp) : Prop :=
  ∀ (cdv : Value) (A : Around) (outer : List Env) (s : Shared) (H : Hp) (vs : List V) (Q : VK) (E : XK), Room k (A.deeper (envOfC qual (defScope st) s.heap.objs.size f cdv)) → sp vs H Q E →
      ∃ t, PSs (cxOf CX P w K mg base N qual (defScope st) f cdv A outer s H E).nox (defBody st) t ∧ t { nx := fun _ H' => Q .non H', rt := Q } (start N vs) H
section
variable {P : Program} {w : World} {K : PySem.W.Frag} {mg : Str → Option Value} {base : Heap} {k : Nat} {C : Addr} {mc : Value} {x m qual : Str} {st : Stmt} {N ps : List Str} {sp : Sp}
theorem DefK.cal (D : DefK K mg x st) (S : FnScope N ps (defScope st)) (b : BindOk x x st ps) (len : ∀ vs H Q E, sp vs H Q E → vs.length = ps.length) (hb : ∀ f, BodyOk CX0 P w K mg base N x st f k sp) : Cal P w K mg base CX0 (k + 1) x sp :=
  let ⟨f, fd, F, m⟩ := D.ex
  ⟨f, fd, ps, F.ok S len (hb f), m, F.kp, F.binds b⟩
theorem DefK.calG (D : DefK K mg x st) (S : FnScope N ps (defScope st)) (b : BindOk x x st ps) (len : ∀ vs H Q E, sp vs H Q E → vs.length = ps.length)
    (hb : ∀ (f : Addr) (cdv : Value) (A : Around) (outer : List Env) (s : Shared) (H : Hp) (vs : List V) (Q : VK) (E : XK), (cxOf CX0 P w K mg base N x (defScope st) f cdv A outer s H E).nox.A.guards = some [] → Room k (A.deeper (envOfC x (defScope st) s.heap.objs.size f cdv)) → sp vs H Q E →
      ∃ t, PSs (cxOf CX0 P w K mg base N x (defScope st) f cdv A outer s H E).nox (defBody st) t ∧ t { nx := fun _ H' => Q .non H', rt := Q } (start N vs) H) : CalG P w K mg base CX0 (k + 1) x sp :=
  let ⟨f, fd, F, m⟩ := D.ex
  ⟨f, fd, ps, fnG_of F S len fun cdv A outer s H vs Q E g hr h =>
    let ⟨t, a, q⟩ := hb f cdv A outer s H vs Q E (guards_deeper g) hr h
    ⟨t, a.nox, q⟩, m, F.kp, F.binds b⟩
/-- .. and the function object, for the end -/
theorem DefK.fnG {fa : Addr} (D : DefK K mg x st) (hm : mg x = some (.ref fa)) (S : FnScope N ps (defScope st)) (b : BindOk x x st ps) (len : ∀ vs H Q E, sp vs H Q E → vs.length = ps.length) :
    ∃ fd : FuncData, Binds K fd ps [] ∧ ∀ (base : Heap), (∀ (f : Addr) (cdv : Value) (A : Around) (outer : List Env) (s : Shared) (H : Hp) (vs : List V) (Q : VK) (E : XK), (cxOf CX0 P w K mg base N x (defScope st) f cdv A outer s H E).nox.A.guards = some [] → Room k (A.deeper (envOfC x (defScope st) s.heap.objs.size f cdv)) → sp vs H Q E →
      ∃ t, PSs (cxOf CX0 P w K mg base N x (defScope st) f cdv A outer s H E).nox (defBody st) t ∧ t { nx := fun _ H' => Q .non H', rt := Q } (start N vs) H) → FnG P w K mg base CX0 (k + 1) fa fd ps sp := by
  obtain ⟨f, fd, F, m⟩ := D.ex
  rw [hm] at m
  cases m
  exact ⟨fd, F.binds b, fun base hb => fnG_of F S len fun cdv A outer s H vs Q E g hr h =>
    let ⟨t, a, q⟩ := hb _ cdv A outer s H vs Q E (guards_deeper g) hr h
    ⟨t, a.nox, q⟩⟩
theorem MetK.met (D : MetK K C m qual st) (S : FnScope N ps (defScope st)) (b : BindOk m qual st ps) (len : ∀ vs H Q E, sp vs H Q E → vs.length = ps.length) (hb : ∀ f, BodyOk CX0 P w K mg base N qual st f k sp) : Met P w K mg base CX0 (k + 1) C m sp :=
  let ⟨f, fd, F, a, i⟩ := D.ex
  ⟨f, fd, ps, F.ok S len (hb f), a, i, F.kp, F.binds b⟩
theorem PrpK.prp (D : PrpK K C m qual st) (S : FnScope N ps (defScope st)) (b : BindOk m qual st ps) (len : ∀ vs H Q E, sp vs H Q E → vs.length = ps.length) (hb : ∀ f, BodyOk CX0 P w K mg base N qual st f k sp) : Prp P w K mg base CX0 (k + 1) C m sp :=
  let ⟨p, f, fd, F, a⟩ := D.ex
  ⟨p, f, fd, ps, F.ok S len (hb f), a, F.binds b⟩
theorem CmtK.cmt (D : CmtK K C mc m qual st) (S : FnScope N ps (defScope st)) (b : BindOk m qual st ps) (len : ∀ vs H Q E, sp vs H Q E → vs.length = ps.length) (hb : ∀ f, BodyOk CX0 P w K mg base N qual st f k sp) : Cmt P w K mg base CX0 (k + 1) C mc m sp :=
  let ⟨p, f, fd, F, r, a⟩ := D.ex
  ⟨p, f, fd, ps, F.ok S len (hb f), r, a, F.binds b⟩
end

section
variable {X : Cx} {k j : Nat} {C : Addr} {mc : Value} {x m : Str} {sp : Sp} {p pos apos : Pos} {e o : Expr} {es : List Expr} {ta : TE} {t : TA}
theorem pe_c (c : Cal X.prog X.w X.K X.mg X.base CX0 k x sp) (hr : Room j X.A) (hk : k ≤ j) (hg : Gl X x) (ha : PA X (e :: es) t)
    (hdb : (x == ("__debug__" : Str)) = false := by decide) (he : starEach (e :: es) X.env = (false, eval e X.env) :: starEach es X.env := by rfl) (hpl : (backTo pos (starEach es X.env)).any (·.1) = false := by rfl) :
    PE X (.Call (.Name x p) (e :: es) [] pos) (tCall sp [] E0 t) := by
  obtain ⟨f, fd, ps, F, hm, kp, b⟩ := c.ex
  exact pe_call F (hr.mono hk) hg hm kp b .nil pass0 ha hdb he hpl
theorem pe_cG (c : CalG X.prog X.w X.K X.mg X.base CX0 k x sp) (g : X.A.guards = some []) (hr : Room j X.A) (hk : k ≤ j) (hg : Gl X x) (ha : PA X (e :: es) t)
    (hdb : (x == ("__debug__" : Str)) = false := by decide) (he : starEach (e :: es) X.env = (false, eval e X.env) :: starEach es X.env := by rfl) (hpl : (backTo pos (starEach es X.env)).any (·.1) = false := by rfl) :
    PE X (.Call (.Name x p) (e :: es) [] pos) (tCall sp [] E0 t) := by
  obtain ⟨f, fd, ps, F, hm, kp, b⟩ := c.ex
  exact pe_callG F g (hr.mono hk) hg hm kp b .nil pass0 ha hdb he hpl
/-- a class that is made by its name -/
structure Mak (P : Program) (w : World) (K : PySem.W.Frag) (mg : Str → Option Value) (base : Heap) (CX : CXT) (k : Nat) (x : Str) (C : Addr) (sp : Sp) : Prop where
  mg_ : mg x = some (.ref C)
  mks : PySem.W.makesIn K C = true
  kp : PySem.W.keepIn K (.ref C) = true
  init : Met P w K mg base CX k C "__init__" sp
theorem pe_mk (c : Mak X.prog X.w X.K X.mg X.base CX0 k x C sp) (hr : Room j X.A) (hk : k + 1 ≤ j) (hg : Gl X x) (ha : PA X (e :: es) t)
    (hdb : (x == ("__debug__" : Str)) = false := by decide) (he : starEach (e :: es) X.env = (false, eval e X.env) :: starEach es X.env := by rfl) (hpl : (backTo pos (starEach es X.env)).any (·.1) = false := by rfl) :
    PE X (.Call (.Name x p) (e :: es) [] pos) (tMake C sp [] E0 t) := by
  obtain ⟨f, fd, ps, F, a, i, kp, b⟩ := c.init.ex
  exact pe_make ⟨c.mks, a, i, c.kp⟩ F (hr.mono hk) hg c.mg_ b .nil pass0 ha hdb he hpl
theorem pe_mkL {i : Nat} (c : Mak X.prog X.w X.K X.mg X.base CX0 k m C sp) (hr : Room j X.A) (hk : k + 1 ≤ j) (hN : X.N[i]? = some x) (hv : Vis X.env.scope x) (ha : PA X (e :: es) t)
    (hdb : (x == ("__debug__" : Str)) = false := by decide) (hcd : (x == ("__classdict__" : Str)) = false := by decide)
    (he : starEach (e :: es) X.env = (false, eval e X.env) :: starEach es X.env := by rfl) (hpl : (backTo pos (starEach es X.env)).any (·.1) = false := by rfl) : PE X (.Call (.Name x p) (e :: es) [] pos) (tMakeL i C sp [] E0 t) := by
  obtain ⟨f, fd, ps, F, a, b', kp, b⟩ := c.init.ex
  exact pe_makeL ⟨c.mks, a, b', c.kp⟩ F (hr.mono hk) hN hv b .nil pass0 ha hdb hcd he hpl
theorem pe_m {pl : Sem Bool} (c : Met X.prog X.w X.K X.mg X.base CX0 k C m sp) (cl : Cls X.K C) (hr : Room j X.A) (hk : k ≤ j) (he : PE X o ta) (ha : PA X (e :: es) t)
    (hst : starEach (e :: es) X.env = (false, eval e X.env) :: starEach es X.env := by rfl) (hpl : (backTo pos (starEach es X.env)).any (·.1) = false := by rfl)
    (ht : eval (.Call (.Attribute o m apos) (e :: es) [] pos) X.env = (do
      let ov ← eval o X.env
      standAt apos.atName
      let (f, first) ← holding [ov] (getMethod ov m pl)
      callWith pos f first (backTo pos (starEach (e :: es) X.env)) (backToKw pos (keywordEach [] X.env))) := by rfl) :
    PE X (.Call (.Attribute o m apos) (e :: es) [] pos) (tMeth C m sp [] E0 ta t) := by
  obtain ⟨f, fd, ps, F, a, i, kp, b⟩ := c.ex
  exact pe_meth (pl := pl) he cl ⟨a, i, kp⟩ F (hr.mono hk) b .nil pass0 ha hst hpl ht
theorem pe_p (c : Prp X.prog X.w X.K X.mg X.base CX0 k C m sp) (cl : Cls X.K C) (hr : Room j X.A) (hk : k + 1 ≤ j) (he : PE X o ta)
    (hab : attributeBase o m X.env (eval o X.env) = eval o X.env := by rfl) : PE X (.Attribute o m pos) (tProp C sp [] E0 ta) := by
  obtain ⟨q, f, fd, ps, F, a, b⟩ := c.ex
  exact pe_prop he cl a F (hr.mono hk) b .nil pass0 hab
theorem op_c {op : CmpOp} {m : Str} (c : Met X.prog X.w X.K X.mg X.base CX0 k C m sp) (hr : Room j X.A) (hk : k ≤ j) (hm : m = (cmpInfo op).2.1 := by rfl)
    (hc : ∀ v u, compareOp op v u = richCompare op v u := by intro _ _; rfl) : OpR X (compareOp op) (rOwn X.K C sp E0) := by
  subst hm
  obtain ⟨f, fd, ps, F, a, i, kp, b⟩ := c.ex
  exact op_own F (hr.mono hk) ⟨a, i⟩ b pass0 hc
theorem op_b {op : Operator} {m : Str} (c : Met X.prog X.w X.K X.mg X.base CX0 k C m sp) (sf : PySem.W.selfFirst X.K C = true) (hr : Room j X.A) (hk : k ≤ j) (hm : m = PySem.dunder op.info.2 := by rfl) : OpR X (binaryOp op) (rOwnB C sp E0) := by
  subst hm
  obtain ⟨f, fd, ps, F, a, i, kp, b⟩ := c.ex
  exact op_ownB F (hr.mono hk) ⟨a, i⟩ sf b pass0
theorem op_in (c : Met X.prog X.w X.K X.mg X.base CX0 k C "__contains__" sp) (hr : Room j X.A) (hk : k ≤ j) : OpR X (compareOp .In) (rOwnIn C sp E0) := by
  obtain ⟨f, fd, ps, F, a, i, kp, b⟩ := c.ex
  exact op_ownIn F (hr.mono hk) ⟨a, i⟩ b pass0
theorem op_notIn (c : Met X.prog X.w X.K X.mg X.base CX0 k C "__contains__" sp) (hr : Room j X.A) (hk : k ≤ j) : OpR X (compareOp .NotIn) (rOwnNotIn C sp E0) := by
  obtain ⟨f, fd, ps, F, a, i, kp, b⟩ := c.ex
  exact op_ownNotIn F (hr.mono hk) ⟨a, i⟩ b pass0
/-- a name of the module, by its value; a built-in type by its name -/
theorem pe_gc {v : V} (hg : Gl X x) (h : ∃ u, X.mg x = some u ∧ L2.RelV v u) (hd : (x == ("__debug__" : Str)) = false := by decide) : PE X (.Name x pos) (tC v) := by
  obtain ⟨u, hm, r⟩ := h
  exact pe_glob hg hm r hd
theorem pe_ty {n : String} (hg : Gl X x) (hm : X.mg x = none) (hv : bootBuiltins x = some (.type n)) (hn : x ≠ "__name__" := by decide) (hd : (x == ("__debug__" : Str)) = false := by decide) : PE X (.Name x pos) (tC (.ty n)) :=
  pe_bltn (v := .ty n) (u := .type n) hg hm hv rfl hn hd
theorem pe_cm0 {pl : Sem Bool} (c : Cmt X.prog X.w X.K X.mg X.base CX0 k C mc m sp) (hr : Room j X.A) (hk : k ≤ j) (he : PE X o ta)
    (ht : eval (.Call (.Attribute o m apos) [] [] pos) X.env = (do
      let ov ← eval o X.env
      standAt apos.atName
      let (f, first) ← holding [ov] (getMethod ov m pl)
      callWith pos f first (backTo pos (starEach [] X.env)) (backToKw pos (keywordEach [] X.env))) := by rfl) :
    PE X (.Call (.Attribute o m apos) [] [] pos) (ClX.tCMeth C (fun vs H Q E => sp (vs ++ []) H Q E) E0 ta tNil) := by
  obtain ⟨q, f, fd, ps, F, r, a, b⟩ := c.ex
  exact pe_cmeth0 (pl := pl) he r a (F.raw b .nil) (hr.mono hk) pass0 ht
end
end Jg

/-! comprehensions that filter ints: [m for m in .. if test], the test pure -/
namespace Jg
open PySem PySem.Spec PyProof.Rows L2
def win (lo : Int) (n : Nat) : List Int := (List.range n).map fun j => lo + (j : Nat)
theorem win_succ (lo : Int) (n : Nat) : win lo (n + 1) = win lo n ++ [lo + (n : Nat)] := by
  unfold win
  rw [List.range_succ, List.map_append]; rfl
theorem win_len (lo : Int) (n : Nat) : (win lo n).length = n := by unfold win; simp
/-- the shape that a list comprehension's reading asks -/
abbrev LcAsk (J : It) (g : TG) (tt : TT) (te : TE) (vs : List Nat) (σ : L2.St) (H1 : Hp) (D : Addr) (Qd : Hp → Prop) : Prop :=
  ∃ W : Nat → Nat → Hp → Prop, (∃ m, W 0 m (upd H1 D (.lst []))) ∧ ∀ i m H, W i m H →
      (J.stop i H ∧ Qd H) ∨ (J.go i H ∧ ∃ Nx : Hp → Prop, (∀ H', Nx H' → ∃ m', m' < m ∧ W (i + 1) m' H') ∧ ∀ x H', J.yld i H x H' → g x (wipe σ vs) H' fun σ2 H2 => wipe σ2 vs = wipe σ vs ∧ tt σ2 H2 fun b H3 =>
        if b = true then te σ2 H3 fun y H4 => ∃ acc, H4 D = some (.lst acc) ∧ acc.length < sizeLine ∧ Nx (upd H4 D (.lst (acc ++ [y]))) else Nx H3)
section
variable {i : Nat} {tt : TT} {σ : L2.St} {H1 : Hp} {D : Addr} {Qd : Hp → Prop} {vs : List Nat}
theorem filt_step {p : Int → Bool} {ms : List Int} {m : Int} (nD : H1 D = none) (hl : ms.length < 1000) (hw : wipe ((wipe σ vs).set i (some (.int m))) vs = wipe σ vs) (hi : ((wipe σ vs).set i (some (.int m)))[i]? = some (some (.int m)))
    (ht : ∀ H (k : Bool → Hp → Prop), Same H1 H → k (p m) H → tt ((wipe σ vs).set i (some (.int m))) H k) (Pv : Hp → Prop) (hP : Pv (upd H1 D (.lst (((ms ++ [m]).filter p).map V.int)))) :
    gName i (.int m) (wipe σ vs) (upd H1 D (.lst ((ms.filter p).map V.int))) fun σ2 H2 => wipe σ2 vs = wipe σ vs ∧ tt σ2 H2 fun b H3 =>
      if b = true then tVar i σ2 H3 fun y H4 => ∃ acc, H4 D = some (.lst acc) ∧ acc.length < sizeLine ∧ Pv (upd H4 D (.lst (acc ++ [y]))) else Pv H3 := by
  refine ⟨hw, ht _ _ (fun b o e => by rw [upd_ne (ne_of_none e nD)]; exact e) ?_⟩
  have e1 : (ms ++ [m]).filter p = ms.filter p ++ [m].filter p := List.filter_append ..
  cases hp : p m with
  | true =>
    have e2 : [m].filter p = [m] := by simp [List.filter, hp]
    rw [e1, e2, List.map_append] at hP
    refine iteT ⟨.int m, hi, _, upd_same, ?_, ?_⟩
    · rw [List.length_map]
      exact small1000 (Nat.le_trans (List.length_filter_le ..) (Nat.le_of_lt hl))
    · rw [upd_upd]
      exact hP
  | false =>
    have e2 : [m].filter p = [] := by simp [List.filter, hp]
    rw [e1, e2, List.append_nil] at hP
    exact iteF hP
theorem lcf_range {lo : Int} {n : Nat} (p : Int → Bool) (nD : H1 D = none) (hn : n ≤ 900) (hw : ∀ m : Int, wipe ((wipe σ vs).set i (some (.int m))) vs = wipe σ vs) (hi : ∀ m : Int, ((wipe σ vs).set i (some (.int m)))[i]? = some (some (.int m)))
    (ht : ∀ (m : Int) H (k : Bool → Hp → Prop), m ∈ win lo n → Same H1 H → k (p m) H → tt ((wipe σ vs).set i (some (.int m))) H k) (hd : Qd (upd H1 D (.lst (((win lo n).filter p).map V.int)))) :
    LcAsk (Itr lo n) (gName i) tt (tVar i) vs σ H1 D Qd := by
  refine lc_range (lo := lo) (n := n) (fun j H => H = upd H1 D (.lst (((win lo j).filter p).map V.int))) rfl (fun j H hj e => ?_) fun H e => e ▸ hd
  subst e
  have hm : lo + (j : Nat) ∈ win lo n := List.mem_map.mpr ⟨j, List.mem_range.mpr hj, rfl⟩
  exact filt_step (p := p) nD (by rw [win_len]; omega) (hw _) (hi _) (fun H k => ht _ H k hm) (fun H => H = upd H1 D (.lst (((win lo (j + 1)).filter p).map V.int))) (by rw [win_succ])
theorem lcf_list {K : PySem.W.Frag} {a : Addr} {ms : List Int} (p : Int → Bool) (hs : SqL K H1 a (ms.map V.int)) (nD : H1 D = none) (hn : ms.length ≤ 900) (hw : ∀ m : Int, wipe ((wipe σ vs).set i (some (.int m))) vs = wipe σ vs) (hi : ∀ m : Int, ((wipe σ vs).set i (some (.int m)))[i]? = some (some (.int m)))
    (ht : ∀ (m : Int) H (k : Bool → Hp → Prop), m ∈ ms → Same H1 H → k (p m) H → tt ((wipe σ vs).set i (some (.int m))) H k) (hd : Qd (upd H1 D (.lst ((ms.filter p).map V.int)))) :
    LcAsk (Itl K a) (gName i) tt (tVar i) vs σ H1 D Qd := by
  have sn : ∀ o, Same H1 (upd H1 D o) := fun o b u e => by rw [upd_ne (ne_of_none e nD)]; exact e
  refine lc_list (K := K) (a := a) (xs := ms.map V.int) (fun j H => H = upd H1 D (.lst (((ms.take j).filter p).map V.int))) rfl (fun j H _ e => e ▸ (sn _).seq hs) (fun j x H hx e => ?_) fun H e => ?_
  · subst e
    rw [List.getElem?_map] at hx
    cases hm : ms[j]? with
    | none => rw [hm] at hx; cases hx
    | some m =>
      rw [hm] at hx
      cases hx
      have e2 : ms.take (j + 1) = ms.take j ++ [m] := by rw [List.take_add_one, hm]; rfl
      exact filt_step (p := p) nD (by rw [List.length_take]; omega) (hw _) (hi _) (fun H k => ht _ H k (List.mem_of_getElem? hm)) (fun H => H = upd H1 D (.lst (((ms.take (j + 1)).filter p).map V.int))) (by rw [e2])
  · rw [List.length_map, List.take_length] at e
    exact e ▸ hd
end
/-! ### strictly sorted lists of ints -/
theorem sorted_ext : ∀ {xs ys : List Int}, xs.Pairwise (· < ·) → ys.Pairwise (· < ·) → (∀ k, k ∈ xs ↔ k ∈ ys) → xs = ys
  | [], [], _, _, _ => rfl
  | [], y :: ys, _, _, h => absurd ((h y).mpr List.mem_cons_self) (by simp)
  | x :: xs, [], _, _, h => absurd ((h x).mp List.mem_cons_self) (by simp)
  | x :: xs, y :: ys, h1, h2, h => by
    obtain ⟨a1, a2⟩ := List.pairwise_cons.mp h1
    obtain ⟨b1, b2⟩ := List.pairwise_cons.mp h2
    have e : x = y := by
      have m1 := (h x).mp List.mem_cons_self
      have m2 := (h y).mpr List.mem_cons_self
      rcases List.mem_cons.mp m1 with z | z
      · exact z
      · rcases List.mem_cons.mp m2 with z' | z'
        · exact z'.symm
        · have := b1 x z
          have := a1 y z'
          omega
    subst e
    have t : xs = ys := sorted_ext a2 b2 fun k => by
      constructor
      · intro hk
        rcases List.mem_cons.mp ((h k).mp (List.mem_cons_of_mem _ hk)) with z | z
        · have := a1 k hk; omega
        · exact z
      · intro hk
        rcases List.mem_cons.mp ((h k).mpr (List.mem_cons_of_mem _ hk)) with z | z
        · have := b1 k hk; omega
        · exact z
    rw [t]
theorem win_sorted (lo : Int) (n : Nat) : (win lo n).Pairwise (· < ·) := by
  unfold win
  rw [List.pairwise_map]
  exact List.pairwise_lt_range.imp fun h => by omega
theorem mem_win {lo : Int} {n : Nat} {m : Int} : m ∈ win lo n ↔ lo ≤ m ∧ m < lo + n := by
  unfold win
  constructor
  · intro h
    obtain ⟨j, hj, rfl⟩ := List.mem_map.mp h
    have := List.mem_range.mp hj
    omega
  · intro h
    exact List.mem_map.mpr ⟨(m - lo).toNat, List.mem_range.mpr (by omega), by omega⟩
/-- the last item, the first one given -/
def lastOf (x : Int) : List Int → Int
  | [] => x
  | y :: r => lastOf y r
/-- how many there are at most between the first and the last, and when all of them are there -/
theorem tight : ∀ (x : Int) (l : List Int), (x :: l).Pairwise (· < ·) → x ≤ lastOf x l ∧ ((x :: l).length : Int) ≤ lastOf x l - x + 1 ∧ (((x :: l).length : Int) = lastOf x l - x + 1 ↔ ∀ m, x ≤ m → m ≤ lastOf x l → m ∈ x :: l)
  | x, [], _ => by
    refine ⟨Int.le_refl _, by show (1 : Int) ≤ x - x + 1; omega, ⟨fun _ m h1 h2 => ?_, fun _ => by show (1 : Int) = x - x + 1; omega⟩⟩
    have h3 : m ≤ x := h2
    have e : m = x := by omega
    rw [e]; exact List.mem_cons_self
  | x, y :: r, h => by
    obtain ⟨a1, a2⟩ := List.pairwise_cons.mp h
    have hxy := a1 y List.mem_cons_self
    obtain ⟨i1, i2, i3⟩ := tight y r a2
    have el : lastOf x (y :: r) = lastOf y r := rfl
    have en : ((x :: y :: r).length : Int) = ((y :: r).length : Int) + 1 := by simp
    rw [el, en]
    refine ⟨by omega, by omega, ⟨fun e m h1 h2 => ?_, fun q => ?_⟩⟩
    · have e1 : y = x + 1 := by omega
      by_cases c : m = x
      · rw [c]; exact List.mem_cons_self
      · exact List.mem_cons_of_mem _ (i3.mp (by omega) m (by omega) h2)
    · have e1 : y = x + 1 := by
        have m1 := q (x + 1) (by omega) (by omega)
        rcases List.mem_cons.mp m1 with z | z
        · omega
        · rcases List.mem_cons.mp z with z | z
          · exact z.symm
          · have := (List.pairwise_cons.mp a2).1 _ z
            omega
      have e2 := i3.mpr fun m h1 h2 => by
        rcases List.mem_cons.mp (q m (by omega) h2) with z | z
        · omega
        · exact z
      omega
theorem lastOf_get : ∀ (x : Int) (l : List Int), (x :: l)[l.length]? = some (lastOf x l)
  | x, [] => rfl
  | x, y :: r => by
    show (y :: r)[r.length]? = _
    exact lastOf_get y r
end Jg

/-! lists and tuples of ints as data: == and what it asks -/
namespace Jg
open PySem PySem.Spec PyProof.Rows L2
theorem lay_ints : ∀ xs : List Int, PyData.canLayAll0 (xs.map PyData.int) = true
  | [] => rfl
  | x :: xs => by
    show (PyData.canLay0 (.int x) && PyData.canLayAll0 (xs.map PyData.int)) = true
    rw [lay_ints xs]; rfl
theorem depth_ints : ∀ xs : List Int, PyData.depthAll (xs.map PyData.int) = 0
  | [] => rfl
  | x :: xs => by
    show max (PyData.depth (.int x)) (PyData.depthAll (xs.map PyData.int)) = 0
    rw [depth_ints xs]; rfl
theorem shaped_ints (xs : List Int) : SeqAt.shaped (.list (xs.map PyData.int)) = true := by
  show (PyData.canLayAll0 (xs.map PyData.int) && decide (PyData.depthAll (xs.map PyData.int) + 1 ≤ 64)) = true
  rw [lay_ints, depth_ints]; rfl
theorem shaped_tup (xs : List Int) : SeqAt.shaped (.tuple (xs.map PyData.int)) = true := by
  show (PyData.canLayAll0 (xs.map PyData.int) && decide (PyData.depthAll (xs.map PyData.int) + 1 ≤ 64)) = true
  rw [lay_ints, depth_ints]; rfl
theorem eqvAll_ints : ∀ xs ys : List Int, PyData.eqvAll (xs.map PyData.int) (ys.map PyData.int) = decide (xs = ys)
  | [], [] => rfl
  | [], y :: ys => rfl
  | x :: xs, [] => rfl
  | x :: xs, y :: ys => by
    have ih := eqvAll_ints xs ys
    show (PyData.eqv (.int x) (.int y) && PyData.eqvAll (xs.map PyData.int) (ys.map PyData.int)) = _
    rw [ih]
    have e : PyData.eqv (.int x) (.int y) = decide (x = y) := by
      by_cases c : x = y
      · subst c; simp [PyData.eqv]
      · simp [PyData.eqv, c]
    rw [e]
    by_cases c : x = y
    · subst c
      by_cases d : xs = ys
      · subst d; simp
      · simp [d]
    · simp [c]
theorem eqv_ints (xs ys : List Int) : PyData.eqv (.list (xs.map PyData.int)) (.list (ys.map PyData.int)) = decide (xs = ys) := by
  rw [PyData.eqv]; exact eqvAll_ints xs ys
theorem eqv_tup (xs ys : List Int) : PyData.eqv (.tuple (xs.map PyData.int)) (.tuple (ys.map PyData.int)) = decide (xs = ys) := by
  rw [PyData.eqv]; exact eqvAll_ints xs ys
theorem dpAll_ints {K : PySem.W.Frag} {H : Hp} : ∀ xs : List Int, DpAll K H (xs.map V.int) (xs.map PyData.int)
  | [] => .nil
  | x :: xs => .cons (.int x) (dpAll_ints xs)
theorem dp_ints {K : PySem.W.Frag} {H : Hp} {a : Addr} {xs : List Int} (h : SqL K H a (xs.map V.int)) : Dp K H (.ref a) (.list (xs.map PyData.int)) := .lst h (dpAll_ints xs)
theorem dp_tup {K : PySem.W.Frag} {H : Hp} {a : Addr} {xs : List Int} (h : SqT K H a (xs.map V.int)) : Dp K H (.ref a) (.tuple (xs.map PyData.int)) := .tup h (dpAll_ints xs)
/-- == of two lists of ints, of two tuples of ints -/
theorem ask_eqL {K : PySem.W.Frag} {H : Hp} {a b : Addr} {xs ys : List Int} {Q : VK} (h1 : SqL K H a (xs.map V.int)) (h2 : SqL K H b (ys.map V.int)) (q : Q (.bl (decide (xs = ys))) H) : rEqD K (.ref a) (.ref b) H Q :=
  ⟨_, _, dp_ints h1, dp_ints h2, shaped_ints xs, shaped_ints ys, by rw [eqv_ints]; exact q⟩
theorem ask_neL {K : PySem.W.Frag} {H : Hp} {a b : Addr} {xs ys : List Int} {Q : VK} (h1 : SqL K H a (xs.map V.int)) (h2 : SqL K H b (ys.map V.int)) (q : Q (.bl (!decide (xs = ys))) H) : rNeD K (.ref a) (.ref b) H Q :=
  ⟨_, _, dp_ints h1, dp_ints h2, shaped_ints xs, shaped_ints ys, by rw [eqv_ints]; exact q⟩
theorem ask_eqT {K : PySem.W.Frag} {H : Hp} {a b : Addr} {xs ys : List Int} {Q : VK} (h1 : SqT K H a (xs.map V.int)) (h2 : SqT K H b (ys.map V.int)) (q : Q (.bl (decide (xs = ys))) H) : rEqD K (.ref a) (.ref b) H Q :=
  ⟨_, _, dp_tup h1, dp_tup h2, shaped_tup xs, shaped_tup ys, by rw [eqv_tup]; exact q⟩
theorem pair_dec {a b c d : Int} : decide ([a, b] = [c, d]) = decide ((a, b) = (c, d)) := by
  by_cases h : (a, b) = (c, d)
  · cases h; rw [decide_eq_true rfl, decide_eq_true rfl]
  · rw [decide_eq_false h, decide_eq_false fun z => h (by injection z with z1 z2; injection z2 with z2 _; rw [z1, z2])]
/-- x in a list of ints -/
theorem inV_ints {m : Int} : ∀ {xs : List Int}, inV (.int m) (xs.map V.int) = decide (m ∈ xs)
  | [] => rfl
  | x :: xs => by
    have ih := inV_ints (m := m) (xs := xs)
    show (eqV (.int x) (.int m) || inV (.int m) (xs.map V.int)) = _
    rw [ih]
    have e : eqV (.int x) (.int m) = decide (x = m) := by
      by_cases c : x = m
      · subst c; simp [eqV]
      · simp [eqV, c]
    rw [e]
    by_cases c : x = m
    · subst c; simp
    · have c' : ¬ m = x := fun z => c z.symm
      simp [c, c']
theorem flat_ints : ∀ {xs : List Int}, (xs.map V.int).all flatV = true
  | [] => rfl
  | x :: xs => by
    show (flatV (.int x) && (xs.map V.int).all flatV) = true
    rw [flat_ints]; rfl
theorem ask_in {K : PySem.W.Frag} {H : Hp} {a : Addr} {xs : List Int} {m : Int} {Q : VK} (h : SqL K H a (xs.map V.int)) (q : Q (.bl (decide (m ∈ xs))) H) : rIn K false (.int m) (.ref a) H Q :=
  ⟨a, _, rfl, .inl h, rfl, flat_ints, by
    show Q (.bl (inV (.int m) (xs.map V.int))) H
    rw [inV_ints]; exact q⟩
theorem map_cat {K : PySem.W.Frag} {H : Hp} {a : Addr} {xs ys : List Int} (h : SqL K H a (xs.map V.int ++ ys.map V.int)) : SqL K H a ((xs ++ ys).map V.int) := by rw [List.map_append]; exact h
end Jg

/-! set(xs) of a list of ints -/
namespace Jg
open PySem PySem.Spec PyProof.Rows L2
/-- a set just made -/
def mtSet (w : World) : Obj := { cls := .type "set", dict := none, data := .set #[] 0 (.fresh 0 0 (!w.params.followText "set-order")) }
section
variable {P : Program} {w : World} {A : Around} {E : Value → Shared → Prop} {s : Shared}
/-- what stands behind set(xs): a new set of the ints -/
abbrev SetDone (w : World) (s : Shared) (ns : List Int) (s₂ : Shared) : Prop :=
  ∃ h' tk c, s₂ = { s with heap := h', toks := tk } ∧ SetR w h' s.heap.objs.size (fun j => decide (j ∈ ns)) c ∧ c ≤ ns.length ∧ ∀ b o, s.heap.get? b = some o → h'.get? b = some o
theorem mt_at (w : World) (h : Heap) : (h.push (mtSet w)).get? h.objs.size = some (mtSet w) := Heap.get?_push_size _ rfl
set_option maxHeartbeats 8000000 in
theorem set_of_list {l : Addr} {items : Array Value} (ns : List Int) {Q : Value → Shared → Prop} (hh : A.handled = none) (hl : s.heap.IsList l items) (hit : IntsAre items.toList ns) (hb : ns.length + 1 < scanBound)
    (h : ∀ s₂, SetDone w s ns s₂ → Q (.ref s.heap.objs.size) s₂) : wpAny (model P w) A (call (.type "set") [.ref l]) Q E s := by
  have hsz : items.size = ns.length := (Array.length_toList (xs := items)).symm.trans (IntsAre.length hit)
  obtain ⟨c, tl, hmro⟩ := F.called_set.mro
  have m1 := F.called_set.made
  have m2 := F.called_set.sub
  have m3 := F.called_set.notType
  have m4 := F.called_set.canCreate
  have m5 := F.typeCall_set_1 (.ref l)
  refine wpAny_call (codeAny_of_tree (show wpAny _ _ (callAny (.type "set") _) _ _ _ from wpAny_pure ⟨Code.quiet_builtin _ (by decide +kernel), codeAny_builtin F.entry_type_call ?_⟩))
  rw [Around.under_plain (weight_type_call_type "set" [.ref l] []) rfl]
  repeat (any_goals (first | assumption | wp_step))
  refine codeAny_mono (code_set_led1 (.ref l) (E := E) (Q₁ := fun obj s₁ => obj = .ref s.heap.objs.size ∧ s₁ = { s with heap := s.heap.push (mtSet w) }) ⟨rfl, rfl⟩) fun r s₁ hr => ?_
  match r, hr with
  | .error e, hr => exact hr
  | .ok (.ret obj), hr =>
    obtain ⟨rfl, rfl⟩ := hr
    have new := mt_at w s.heap
    have ty : Shared.TypeIs { s with heap := s.heap.push (mtSet w) } (.ref s.heap.objs.size) "set" := ⟨_, new, rfl⟩
    have m6 := F.called_set.init.lookup
    have m7 := F.called_set.init.bind (.ref s.heap.objs.size)
    repeat (any_goals (first | assumption | wp_step))
    refine codeAny_mono (codeAny_call_builtin (R := wants (fun r s₂ => r = .none ∧ SetDone w s ns s₂) E) F.called_set.init.plain F.entry_set_init (check_set_init_1 ty ?_)) fun r₂ s₂ hr₂ => ?_
    · obtain ⟨⟨ocls, odict, odata, oslots⟩, hol, hcl, nl, hdl⟩ := hl
      simp only at hcl hdl
      subst hcl; subst hdl
      have lt : l < s.heap.objs.size := Heap.lt_size hol
      have old : (s.heap.push (mtSet w)).get? l = some { cls := .type "list", dict := odict, data := .seq items nl, slots := oslots } := Heap.get?_push_of_some _ hol
      have il : (s.heap.push (mtSet w)).IsList l items := ⟨_, old, rfl, nl, rfl⟩
      have n1 := F.sub_list_set
      have n2 := F.sub_list_frozenset
      have n3 : (Value.type "list" == Value.type "dict") = false := by decide
      have sz : (s.heap.push (mtSet w)).objs.size = s.heap.objs.size + 1 := Heap.size_push ..
      unfold Builtin.«set.__init__» noKeywords Builtin.Frozenset.updateFrom
      generalize hPI : pyIter = PI
      wp_walk
      subst hPI
      refine wpAny_pyIter_list il (wpAny_bind (wpAny_runValue ?_))
      have apart : l ≠ (s.heap.push (mtSet w)).objs.size := by rw [sz]; exact Nat.ne_of_lt (Nat.lt_succ_of_lt lt)
      refine set_update_ints (P := P) (w := w) ((Walks.list (show A.in1.in1.in1.handled = none by simp [hh]) _ l apart items).toS) s.heap.objs.size ?_ ns hsz hb (fun i v hv => ?_) (items.size - 0) 0 _ (by omega) (Nat.zero_le _)
        ⟨⟨_, Heap.get?_push_size _ rfl, rfl, rfl⟩, il.push _⟩ ⟨0, Nat.le_refl 0, setR_new_at (Heap.get?_push_of_some _ new)⟩ fun s' c' hm hc' hS' => ?_
      · rw [sz]
        intro z
        rcases List.mem_cons.mp z with z | z
        · exact absurd z (Nat.ne_of_lt (Nat.lt_succ_self _))
        · rcases List.mem_cons.mp z with z | z
          · exact absurd z (Nat.ne_of_gt lt)
          · cases z
      · have hi : i < ns.length := by rw [← hsz]; exact (Array.getElem?_eq_some_iff.mp hv).1
        obtain ⟨t, e⟩ := PyProof.Rows.IntsAre.int_at hit i v (by rw [Array.getElem?_toList]; exact hv)
        exact ⟨ns[i], t, List.getElem?_eq_getElem hi, by rw [e, List.getD_eq_getElem?_getD, List.getElem?_eq_getElem hi] <;> rfl⟩
      · obtain ⟨h', g2, d', tk', os'⟩ := s'
        obtain rfl : g2 = s.gens := hm.gens
        obtain rfl : d' = s.drawn := hm.drawn
        obtain rfl : os' = s.os := hm.os
        refine wpAny_pure (show wpAny _ _ (ret Value.none) _ _ _ from wpAny_pure ⟨rfl, h', tk', c', rfl, hS', by omega, fun b o e => ?_⟩)
        have lb : b < s.heap.objs.size := Heap.lt_size e
        refine hm.heap b o (fun z => ?_) (Heap.get?_push_of_some _ (Heap.get?_push_of_some _ e))
        rcases List.mem_cons.mp z with z | z
        · exact absurd z (Nat.ne_of_lt lb)
        · rcases List.mem_cons.mp z with z | z
          · rw [sz] at z
            exact absurd z (Nat.ne_of_lt (Nat.lt_succ_of_lt lb))
          · cases z
    · match r₂, hr₂ with
      | .error e, hr₂ => exact hr₂
      | .ok (.ret r), hr₂ =>
        obtain ⟨rfl, done⟩ := hr₂
        repeat (any_goals (first | assumption | wp_step))
        exact h _ done
end
/-- set(xs) -/
def rSetL (K : PySem.W.Frag) (w : World) : List V → Hp → VK → Prop := fun xs H Q => ∃ (a : Addr) (ns : List Int), xs = [.ref a] ∧ SqL K H a (ns.map V.int) ∧ ns.length + 1 < scanBound ∧
  ∀ p c, H p = none → c ≤ ns.length → Q (.ref p) (upd H p (SetO w p (fun j => decide (j ∈ ns)) c))
theorem ints_of : ∀ {ns : List Int} {us : List Value}, Vals (ns.map V.int) us → IntsAre us ns
  | [], [], .nil => .nil
  | n :: _, _ :: _, .cons ⟨t, e⟩ r => by
    subst e
    exact .cons n t (ints_of r)
theorem cr_setL {X : Cx} (hc : X.calm = true) : CallR X (.type "set") (rSetL X.K X.w) := by
  intro pins s σ H xs us Q I r h
  obtain ⟨a, ns, rfl, hs, hb, q⟩ := h
  obtain ⟨u, rfl, ru⟩ := vals1 r
  cases ru
  obtain ⟨its, rv, p, hz⟩ := I.list hs
  refine set_of_list ns (I.ok.hd hc) p.isList (by simpa using ints_of rv) hb fun s₂ ⟨h', tk, c, e, R, hc', k⟩ => ?_
  subst e
  exact ⟨.ref s.heap.objs.size, _, I.laid (t' := tk) k (Nat.le_refl _) (setO_new R), rfl, q _ c (I.hok.fresh (Nat.le_refl _)) hc'⟩
end Jg

/-! try with any number of clauses, named or not, the rest of them perhaps never asked -/
namespace Jg
open PySem PySem.Spec PyProof.Rows L2

/-- an exception a of the class cls, its dict d, lies caught in the frame of X -/
def Caught (X : Cx) (pins : List (Addr × Obj)) (σ : L2.St) (H : Hp) (a : Addr) (cls : Value) (d : Option Addr) (s : Shared) : Prop :=
  ∃ (B : Heap) (s0 : Shared), Inv X pins σ H s0 ∧ (∀ b o, s0.heap.get? b = some o → b ∉ frs X.stack → B.get? b = some o) ∧ s0.heap.UpToSlots s.heap ∧
    HandSPX.FlyingZ B (X.env :: X.outer) a (Zc cls d) s.heap ∧ s.os = s0.os ∧ AllBare s.gens ∧ H a = none
section
variable {X : Cx} {pins : List (Addr × Obj)} {σ : L2.St} {H : Hp} {a : Addr} {cls : Value} {d : Option Addr} {s : Shared}
theorem Caught.inv (c : Caught X pins σ H a cls d s) : Inv X pins σ H s :=
  let ⟨_, _, J, keep, up, fly, os, bare, _⟩ := c
  J.landed keep fly.1 up os bare
theorem Caught.hole (c : Caught X pins σ H a cls d s) : H a = none :=
  let ⟨_, _, _, _, _, _, _, _, z⟩ := c
  z
/-- the place of the exception, and what stands there -/
theorem Caught.place (c : Caught X pins σ H a cls d s) (fr : X.env.frame = some X.env.locals) :
    ∃ oe vs, s.heap.get? a = some oe ∧ Zc cls d oe ∧ oe.data = .fields vs ∧ a ≠ X.env.locals ∧ a ∉ X.fs := by
  obtain ⟨B, s0, J, keep, up, fly, os, bare, z⟩ := c
  obtain ⟨oe, vs, at_, zc, dt⟩ := fly.there
  have out : a ∉ frs (X.env :: X.outer) := fun m => by
    obtain ⟨_, o, at2, no⟩ := fly.2.2.1.mem m
    cases at_.symm.trans at2
    exact no vs dt
  refine ⟨oe, vs, at_, zc, dt, fun e => out ?_, fun m => out ?_⟩
  · rw [e]
    exact List.mem_filterMap.mpr ⟨_, List.mem_cons_self, fr⟩
  · obtain ⟨e, me, fe⟩ := List.mem_filterMap.mp m
    exact List.mem_filterMap.mpr ⟨e, List.mem_cons_of_mem _ me, fe⟩
theorem Caught.again {M : Model} {A : Around} {E : Value → Shared → Prop} {Q : Unit → Shared → Prop} (c : Caught X pins σ H a cls d s) (q : ∀ s', Caught X pins σ H a cls d s' → Q () s') :
    wpAny M A (setFlight (.ref a) .none) Q E s := by
  obtain ⟨B, s0, J, keep, up, fly, os, bare, z⟩ := c
  exact HandSPX.lands_againZ fly fun h' fly' up' => q _ ⟨B, s0, J, keep, up.trans up', fly', os, bare, z⟩
/-- no clause took it: it goes on -/
theorem Caught.goes {W : WX} {Q : Flow → Shared → Prop} {pos : String} (ok : X.Ok) (hs : X.stack = X.env :: X.outer) (fr : X.env.frame = some X.env.locals) (c : Caught X pins σ H a cls d s) (tk : Takes X W) (w : W cls d σ H) :
    wpAny (model X.prog X.w) X.A (passOn pos (.ref a) X.env) Q X.xe s := by
  obtain ⟨B, s0, J, keep, up, fly, os, bare, z⟩ := c
  obtain ⟨_, _, _, oe, vs, T, oT, ts, at_, _, dt, one, _⟩ := id fly
  have last : wpAny (model X.prog X.w) X.A (setFlight (.ref a) X.env.frame) (fun _ s4 => wpAny (model X.prog X.w) X.A (throw (.ref a) : Sem Flow) Q X.xe s4) X.xe s := by
    rw [fr]
    refine HandSPX.setFlight_upZ fly fun h4 held up4 => wpAny_throw (tk _ _ ⟨a, B, s0, pins, σ, H, cls, d, rfl, J, keep, up.trans up4, .inr (.inr ?_), z, os, bare, w⟩)
    rw [hs]
    exact held
  unfold PySem.passOn
  refine wpAny_bind (wpAny_field at_ dt one ?_)
  rw [if_neg (by simp : ¬ ((Value.ref T == Value.none) = true))]
  first
    | exact wpAny_bind (wpAny_pure (wpAny_bind last))
    | exact wpAny_bind last
end

/-- the slot i is free behind what the ends say -/
def gone (i : Nat) (D : Ends) : Ends := { nx := fun σ H => D.nx (σ.set i .none) H, rt := D.rt, bk := fun σ H => D.bk (σ.set i .none) H, ct := fun σ H => D.ct (σ.set i .none) H }
/-- what a row of clauses wishes of the exception -/
inductive Hds (X : Cx) (Wout : WX) : List ExceptHandler → (Ends → WX) → Prop
  | out : Hds X Wout [] fun _ => Wout
  | cut {l : List ExceptHandler} : Hds X Wout l fun _ _ _ _ _ => False
  | named {x n : Str} {c : Value} {i : Nat} {ts : Addr → Value → Option Addr → TS} {b : Stmt} {suite : List Stmt} {np p : Pos} {l : List ExceptHandler} {w : Ends → WX} (hi : X.N[i]? = some n) (hl : X.env.kindOf n = some .local) (hc : Names X x c)
      (body : ∀ (a : Addr) (oe : Obj) (cls : Value) (d : Option Addr) (pn : List (Addr × Obj)), Zc cls d oe → (∃ vs, oe.data = .fields vs) → PSs (X.suite a ((a, oe) :: pn)) (b :: suite) (ts a cls d)) (r : Hds X Wout l w) :
      Hds X Wout (.ExceptHandler (some (.Name x np)) (some n) (b :: suite) p :: l) fun D cls d σ H =>
        ∃ k, PySem.W.exmOne X.K cls c = some k ∧ (k = true → ∀ a, H a = .none → ts a cls d (gone i D) (σ.set i (some (.ref a))) H) ∧ (k = false → w D cls d σ H)
  | plain {x : Str} {c : Value} {ts : Addr → Value → Option Addr → TS} {b : Stmt} {suite : List Stmt} {np p : Pos} {l : List ExceptHandler} {w : Ends → WX} (hc : Names X x c)
      (body : ∀ (a : Addr) (oe : Obj) (cls : Value) (d : Option Addr) (pn : List (Addr × Obj)), Zc cls d oe → (∃ vs, oe.data = .fields vs) → PSs (X.suite a ((a, oe) :: pn)) (b :: suite) (ts a cls d)) (r : Hds X Wout l w) :
      Hds X Wout (.ExceptHandler (some (.Name x np)) none (b :: suite) p :: l) fun D cls d σ H =>
        ∃ k, PySem.W.exmOne X.K cls c = some k ∧ (k = true → ∀ a, H a = .none → ts a cls d D σ H) ∧ (k = false → w D cls d σ H)
section
variable {X : Cx} {Wout : WX}
/-- the test of a clause -/
theorem Caught.test {pins : List (Addr × Obj)} {σ : L2.St} {H : Hp} {a : Addr} {cls c : Value} {d : Option Addr} {s : Shared} {x : Str} {k : Bool} {np p : Pos} {R : Result → Shared → Prop} (t : Caught X pins σ H a cls d s) (fr : X.env.frame = some X.env.locals)
    (hc : Names X x c) (e : PySem.W.exmOne X.K cls c = some k) (q : R (.ok (if k then .brk else .next)) s) :
    codeAny (model X.prog X.w) (X.A.mark (some (.ref a))) (.handlers (.ref a) [.ExceptHandler (some (.Name x np)) none [] p] X.env) R s := by
  obtain ⟨oe, vs, at_, zc, dt, nl, nf⟩ := t.place fr
  have J := t.inv.suite at_ dt t.hole nl nf
  have ty : PySem.W.Looks (model X.prog X.w) s.heap (typeOf (.ref a)) cls := fun A Q E s' keep z => wpAny_typeOf_ref (keep _ _ at_) (by rw [zc.1]; exact z)
  have hit := PySem.W.exm_one (M := model X.prog X.w) t.inv.kIn ty e
  refine codeAny_handlers_test ?_
  obtain ⟨hg, nd, m | ⟨m, v, nn⟩⟩ := hc
  · exact ld_glob J hg m (hit.here q) nd
  · exact ld_blt J hg m v (hit.here q) nn nd
theorem Hds.run {hds : List ExceptHandler} {w : Ends → WX} (hd : Hds X Wout hds w) (hs : X.stack = X.env :: X.outer) (fr : X.env.frame = some X.env.locals) (hN : X.N.Nodup) (tk : Takes X Wout)
    {pins : List (Addr × Obj)} {σ : L2.St} {H : Hp} {a : Addr} {cls : Value} {d : Option Addr} {s : Shared} {D : Ends} (t : Caught X pins σ H a cls d s) (h : w D cls d σ H) :
    wpAny (model X.prog X.w) X.A (handleBy (.ref a) X.env hds) (SP X pins D) X.xe s := by
  have ok := t.inv.ok
  induction hd with
  | out => exact wpAny_handleBy_nil (t.goes ok hs fr tk h)
  | cut => exact h.elim
  | @named x n c i ts b suite np p l w hi hl hc body r ih =>
    obtain ⟨k, e, yes, no⟩ := h
    refine wpAny_handleBy_cons ?_ (fun z => nomatch z)
    refine t.test fr hc e ?_
    cases k with
    | false => exact ih (no rfl)
    | true =>
      refine codeAny_handlers_suite_as (t.again fun s2 t2 => ?_)
      obtain ⟨oe, vs, at_, zc, dt, nl, nf⟩ := t2.place fr
      have J := t2.inv.suite at_ dt t2.hole nl nf
      refine store_ok (X := X.suite a ((a, oe) :: (X.pn ++ pins))) (v := .ref a) J hN hi (.inl hl) rfl (fun s3 J3 => ?_) (.inr hl)
      refine wpAny_mono ((body a oe cls d _ zc ⟨vs, dt⟩).run [] s3 _ H _ J3 (yes rfl a t2.hole)) (fun f s4 z => ?_) fun _ _ z => z.elim
      have off : ∀ {σ4 : L2.St} {H4 : Hp} {Q : Shared → Prop}, Inv (X.suite a ((a, oe) :: (X.pn ++ pins))) [] σ4 H4 s4 → (∀ s5, Inv X pins (σ4.set i .none) H4 s5 → Q s5) →
          wpAny (model X.prog X.w) X.A (do bindName X.env n .none; unbindBehindTheSuite X.env n p) (fun _ s5 => Q s5) X.xe s4 := fun J4 q => gone_ok (J4.unsuite ok) hN hi hl q
      match f, z with
      | .next, ⟨_, _, J4, q⟩ => exact off J4 fun s5 J5 => ⟨_, _, J5, q⟩
      | .brk, ⟨_, _, J4, q⟩ => exact off J4 fun s5 J5 => ⟨_, _, J5, q⟩
      | .cont, ⟨_, _, J4, q⟩ => exact off J4 fun s5 J5 => ⟨_, _, J5, q⟩
      | .ret u, ⟨_, _, _, J4, rv, q⟩ => exact off J4 fun s5 J5 => ⟨_, _, _, J5, rv, q⟩
  | @plain x c ts b suite np p l w hc body r ih =>
    obtain ⟨k, e, yes, no⟩ := h
    refine wpAny_handleBy_cons ?_ (fun z => nomatch z)
    refine t.test fr hc e ?_
    cases k with
    | false => exact ih (no rfl)
    | true =>
      refine codeAny_handlers_suite (t.again fun s2 t2 => ?_)
      obtain ⟨oe, vs, at_, zc, dt, nl, nf⟩ := t2.place fr
      have J := t2.inv.suite at_ dt t2.hole nl nf
      refine wpAny_mono ((body a oe cls d _ zc ⟨vs, dt⟩).run [] s2 _ H _ J (yes rfl a t2.hole)) (fun f s4 z => ?_) fun _ _ z => z.elim
      match f, z with
      | .next, ⟨_, _, J4, q⟩ => exact ⟨_, _, J4.unsuite ok, q⟩
      | .brk, ⟨_, _, J4, q⟩ => exact ⟨_, _, J4.unsuite ok, q⟩
      | .cont, ⟨_, _, J4, q⟩ => exact ⟨_, _, J4.unsuite ok, q⟩
      | .ret u, ⟨_, _, _, J4, rv, q⟩ => exact ⟨_, _, _, J4.unsuite ok, rv, q⟩
/-- try: body / clauses -/
theorem ps_try {body : List Stmt} {h₀ : ExceptHandler} {hds : List ExceptHandler} {w : Ends → WX} {pos : Pos} {tb : WX → TS} (hd : Hds X Wout (h₀ :: hds) w) (hs : X.stack = X.env :: X.outer) (fr : X.env.frame = some X.env.locals) (hN : X.N.Nodup) (tk : Takes X Wout)
    (hb : ∀ (W : WX) (pn : List (Addr × Obj)) (xe : Value → Shared → Prop), Takes (X.tr pn xe) W → PassesOwn (model X.prog X.w) X.A X.env xe → PSs (X.tr pn xe) body (tb W)) :
    PS X (.Try body (h₀ :: hds) [] [] pos) fun D σ H => tb (w D) D σ H := by
  refine ⟨fun pins s σ H D I h => wpAny_Try_except ?_⟩
  have ok := I.ok
  let xe : Value → Shared → Prop := fun e s1 => wpAny (model X.prog X.w) X.A (noteFrame e X.env) (fun _ s2 => wpAny (model X.prog X.w) X.A (setFlight e .none) (fun _ s3 => wpAny (model X.prog X.w) X.A (handleBy e X.env (h₀ :: hds)) (SP X pins D) X.xe s3) X.xe s2) X.xe s1
  have tkb : Takes (X.tr (X.pn ++ pins) xe) (w D) := by
    rintro u s1 ⟨a, B, s0, pins', σ1, H1, cls, d, rfl, J', keep, up, sky, z, os, bare, wd⟩
    have J : Inv X pins σ1 H1 s0 := J'.ofTry ok
    have fl : Sky B (X.env :: X.outer) a (Zc cls d) X.env.locals s1.heap := by rw [← hs]; exact sky
    show wpAny (model X.prog X.w) X.A (noteFrame (.ref a) X.env) _ _ _
    refine Sky.land Zc.steady (by rw [ok.frames, hs]) fr fl fun h3 fly up3 => ?_
    exact hd.run hs fr hN tk ⟨B, s0, J, keep, up.trans up3, fly, os, bare, z⟩ wd
  refine wpAny_mono ((hb (w D) (X.pn ++ pins) xe tkb PassesOwn.looking).run [] s σ H D (I.toTry xe) h) (fun f s1 z => ?_) fun _ _ z => z
  match f, z with
  | .next, ⟨_, _, J, q⟩ => exact wpAny_execs_nil ⟨_, _, J.ofTry ok, q⟩
  | .brk, ⟨_, _, J, q⟩ => exact ⟨_, _, J.ofTry ok, q⟩
  | .cont, ⟨_, _, J, q⟩ => exact ⟨_, _, J.ofTry ok, q⟩
  | .ret u, ⟨_, _, _, J, rv, q⟩ => exact ⟨_, _, _, J.ofTry ok, rv, q⟩
end

/-! ### what may raise: called at the slots as they stand -/
/-- C(..) whose __init__ may let an exception out -/
def tMakeS (C : Addr) (sp : Sp) (E : L2.St → XK) (t : TA) : TE := fun σ H Q => t σ H fun vs H1 => ∀ x dx, H1 x = none → H1 dx = none → dx ≠ x →
  sp (.ref x :: vs) (upd (upd H1 dx (.own x)) x (.ins C dx [])) (fun v H2 => v = .non ∧ Q (.ref x) H2) (E σ)
section
variable {X : Cx} {k j : Nat} {C : Addr} {x m : Str} {sp : Sp} {W : WX} {p pos : Pos} {e : Expr} {es : List Expr} {t : TA}
theorem pe_cS (c : Cal X.prog X.w X.K X.mg X.base (L2.CX X.prog X.w) k x sp) (tk : Takes X W) (hr : Room j X.A) (hk : k ≤ j) (hg : Gl X x) (ha : PA X (e :: es) t)
    (hdb : (x == ("__debug__" : Str)) = false := by decide) (he : starEach (e :: es) X.env = (false, eval e X.env) :: starEach es X.env := by rfl) (hpl : (backTo pos (starEach es X.env)).any (·.1) = false := by rfl) :
    PE X (.Call (.Name x p) (e :: es) [] pos) (tCallS sp (WE W) t) := by
  obtain ⟨f, fd, ps, F, hm, kp, b⟩ := c.ex
  exact pe_callS F (hr.mono hk) hg hm kp b (passAt tk) ha hdb he hpl
theorem pe_mkS (c : Mak X.prog X.w X.K X.mg X.base (L2.CX X.prog X.w) k x C sp) (tk : Takes X W) (hr : Room j X.A) (hk : k + 1 ≤ j) (hg : Gl X x) (ha : PA X (e :: es) t)
    (hdb : (x == ("__debug__" : Str)) = false := by decide) (he : starEach (e :: es) X.env = (false, eval e X.env) :: starEach es X.env := by rfl) (hpl : (backTo pos (starEach es X.env)).any (·.1) = false := by rfl) :
    PE X (.Call (.Name x p) (e :: es) [] pos) (tMakeS C sp (WE W) t) := by
  obtain ⟨f, fd, ps, F, ini, fn, kp, b⟩ := c.init.ex
  refine ⟨fun pins s σ H Q I h => wpAny_Call_Name_kw (ld_glob I hg c.mg_ (PySem.W.callWith_K (h₀ := X.base) I.ok.mod.kin c.kp (thn (ha.run pos pins s σ H _ I h) fun us s1 ⟨vs, H1, J, r, q⟩ => ⟨J.kIn, ?_⟩) he hpl) hdb)⟩
  have q1 := q (s1.heap.objs.size + 1) s1.heap.objs.size (J.hok.fresh (Nat.le_succ _)) (J.hok.fresh (Nat.le_refl _)) (Nat.ne_of_lt (Nat.lt_succ_self _))
  have J2 := Inv.made (C := C) J
  have r2 : Vals (V.ref (s1.heap.objs.size + 1) :: vs) (Value.ref (s1.heap.objs.size + 1) :: us) := .cons rfl r
  have ln : (Value.ref (s1.heap.objs.size + 1) :: us).length = ps.length := r2.length.symm.trans (F.len _ _ _ _ q1)
  have bd := b _ (Value.ref (s1.heap.objs.size + 1) :: us) J2.kIn (by rw [List.append_nil]; exact ln)
  rw [List.append_nil] at bd
  have run := F.run _ X.stack _ _ ⟨Value.ref (s1.heap.objs.size + 1) :: us, []⟩ _ _ _ (WE W σ) ((hr.mono hk).make C us []) (J2.env0.make C us []) bd r2 q1
  show wpAny (model X.prog X.w) X.A (call (.ref C) us) (EP X pins σ Q) X.xe s1
  refine wpAny_call (make_map (f := f) J.kIn c.mks ini (beq_iff_eq.mp fn) (codeAny_mono run fun o s2 z => ?_))
  match o, z with
  | .error err, z => exact passAt tk σ pins _ _ err s2 J2 z
  | .ok (.ret u), z =>
    obtain ⟨v, H2, J3, rv, ev, q3⟩ := J2.after z
    subst ev
    exact ⟨rv, V.ref (s1.heap.objs.size + 1), H2, J3, rfl, q3⟩
end
section
variable {P : Program} {w : World} {K : PySem.W.Frag} {mg : Str → Option Value} {base : Heap} {k : Nat} {C : Addr} {x m qual : Str} {st : Stmt} {N ps : List Str} {sp : Sp}
/-- what a body that may raise must show -/
def BodyX (P : Program) (w : World) (K : PySem.W.Frag) (mg : Str → Option Value) (base : Heap) (N : List Str) (qual : Str) (st : Stmt) (f : Addr) (k : Nat) (sp : Sp) : Prop :=
  ∀ (cdv : Value) (A : Around) (outer : List Env) (s : Shared) (H : Hp) (vs : List V) (Q : VK) (E : XK), Room k (A.deeper (envOfC qual (defScope st) s.heap.objs.size f cdv)) → sp vs H Q E →
      ∃ t, PSs (cxOf (L2.CX P w) P w K mg base N qual (defScope st) f cdv A outer s H E) (defBody st) t ∧ t { nx := fun _ H' => Q .non H', rt := Q } (start N vs) H
theorem DefK.calX (D : DefK K mg x st) (S : FnScope N ps (defScope st)) (b : BindOk x x st ps) (len : ∀ vs H Q E, sp vs H Q E → vs.length = ps.length) (hb : ∀ f, BodyX P w K mg base N x st f k sp) : Cal P w K mg base (L2.CX P w) (k + 1) x sp :=
  let ⟨f, fd, F, m⟩ := D.ex
  ⟨f, fd, ps, F.okX S len (hb f), m, F.kp, F.binds b⟩
theorem MetK.metX (D : MetK K C m qual st) (S : FnScope N ps (defScope st)) (b : BindOk m qual st ps) (len : ∀ vs H Q E, sp vs H Q E → vs.length = ps.length) (hb : ∀ f, BodyX P w K mg base N qual st f k sp) : Met P w K mg base (L2.CX P w) (k + 1) C m sp :=
  let ⟨f, fd, F, a, i⟩ := D.ex
  ⟨f, fd, ps, F.okX S len (hb f), a, i, F.kp, F.binds b⟩
end
/-! ### an exception class of the program with an own __init__ -/
structure Exn (P : Program) (w : World) (K : PySem.W.Frag) (mg : Str → Option Value) (base : Heap) (k : Nat) (x : Str) (C : Addr) (sp : Sp) : Prop where
  mg_ : mg x = some (.ref C)
  cls : OexC K C
  init : ∃ fI fd ps, FnOk P w K mg base CX0 k fI fd ps sp ∧ PySem.W.findIn K (.ref C) "__init__" = some (some (.ref fI)) ∧ PySem.W.typeIn K (.ref fI) = some (.type "function") ∧ Binds K fd ps []
theorem pmk_x {X : Cx} {k j : Nat} {C : Addr} {x : Str} {sp : Sp} {p pos : Pos} {e : Expr} {es : List Expr} {t : TA} (c : Exn X.prog X.w X.K X.mg X.base k x C sp) (hr : Room j X.A) (hk : k + 1 ≤ j) (hg : Gl X x) (ha : PA X (e :: es) t)
    (hdb : (x == ("__debug__" : Str)) = false := by decide) (he : starEach (e :: es) X.env = (false, eval e X.env) :: starEach es X.env := by rfl) (hpl : (backTo pos (starEach es X.env)).any (·.1) = false := by rfl) :
    PMk X (.Call (.Name x p) (e :: es) [] pos) (tMkO C sp [] t) := by
  obtain ⟨fI, fd, ps, F, a, ty, b⟩ := c.init
  exact pmk_oex c.cls a ty F (hr.mono hk) b .nil pass0 hg c.mg_ ha hdb he hpl

/-- __init__ that keeps its one argument in the field f -/
def spX (C : Addr) (f : Str) : Sp := fun vs H Q _ => ∃ a y, vs = [.ref a, y] ∧ H a = some (exo a C none) ∧ ∀ dx, H dx = none → dx ≠ a → Q .non (upd (upd H dx (exd dx [(f, y)])) a (exo a C (some dx)))
/-- .. called: the exception's dict is new, all else stays -/
theorem x_read {C : Addr} {f : Str} {y : V} {H : Hp} {Q : XK} (h : ∀ d, H d = none → Q (.ref C) (some d) (upd H d (.xd [(f, y)]))) : ([y] : List V).length ≤ 1000 ∧ ∀ a, H a = none → spX C f (.ref a :: ([y] ++ [])) (upd H a (exo a C none))
    (fun v H2 => v = .non ∧ ∃ (d : Addr) (fs : List (Str × V)), H2 a = some (exo a C (some d)) ∧ H2 d = some (exd d fs) ∧ H d = none ∧ Q (.ref C) (some d) (upd (del H2 a) d (.xd fs))) fun _ _ _ => False := by
  refine ⟨by show 1 ≤ 1000; decide, fun a na => ⟨a, y, rfl, upd_same, fun dx nd ne => ⟨rfl, dx, [(f, y)], upd_same, ?_, ?_, ?_⟩⟩⟩
  · rw [upd_ne ne, upd_same]
  · rw [upd_ne ne] at nd
    exact nd
  · have nd' : H dx = none := by rw [upd_ne ne] at nd; exact nd
    have e : upd (del (upd (upd (upd H a (exo a C none)) dx (exd dx [(f, y)])) a (exo a C (some dx))) a) dx (.xd [(f, y)]) = upd H dx (.xd [(f, y)]) := by
      funext b
      by_cases c1 : b = dx
      · rw [c1, upd_same, upd_same]
      · rw [upd_ne c1, upd_ne c1]
        by_cases c2 : b = a
        · rw [c2, del_same, na]
        · rw [del_ne c2, upd_ne c2, upd_ne c1, upd_ne c2]
    rw [e]
    exact h dx nd'
/-- what the class of a caught exception must say, for its fields and for isinstance -/
structure ExcK (K : PySem.W.Frag) (C : Addr) : Prop where
  xf : XfC K C
  ha : PySem.W.findIn K (.ref C) "__class__" = some (some (.builtin "object.__class__"))
  hn : PySem.W.specialIn K (.builtin "object.__class__") "__get__" = some (some (.builtin "getset_descriptor.__get__"))
  ht : PySem.W.takesIn K (.builtin "object.__class__") = some true
  hm : PySem.W.mroIn K C (.type "object") = some true
section
variable {X : Cx} {a C : Addr} {oe : Obj} {cls : Value} {d : Option Addr} {pn : List (Addr × Obj)}
/-- isinstance(e, c) of a caught exception with a dict -/
def rIsX (K : PySem.W.Frag) (cls : Value) (C a : Addr) (d : Option Addr) : List V → Hp → VK → Prop := fun xs H Q => ∃ (c : V) (cv : Value) (b : Bool) (dd : Addr) (fs : List (Str × V)), xs = [.ref a, c] ∧ cls = .ref C ∧ d = some dd ∧ H dd = some (.xd fs) ∧ (∀ u, RelV c u → u = cv) ∧ PySem.W.kitOne K (.ref C) cv = some b ∧ Q (.bl b) H
theorem exc_inst {pins : List (Addr × Obj)} {σ : L2.St} {H : Hp} {s : Shared} {dd : Addr} {fs : List (Str × V)} (I : Inv (X.suite a ((a, oe) :: pn)) pins σ H s) (hz : Zc (.ref C) (some dd) oe) (hf : ∃ vs, oe.data = .fields vs) (e : H dd = some (.xd fs)) : ∃ od, PySem.W.InstAt s.heap a oe C (some od) := by
  obtain ⟨mA, ns, _⟩ := I.hok dd _ e
  obtain ⟨od, at2, _⟩ := lookIn_ns ns
  obtain ⟨at1, _⟩ := I.pin (a, oe) (List.mem_append_left _ List.mem_cons_self)
  obtain ⟨vs, dt⟩ := hf
  exact ⟨od, at1, hz.1, by unfold PySem.W.notCls; rw [dt] <;> rfl, by rw [hz.2]; exact at2⟩
theorem call_isX (T : ExcK X.K C) (hz : Zc cls d oe) (hf : ∃ vs, oe.data = .fields vs) : CallR (X.suite a ((a, oe) :: pn)) (.builtin "isinstance") (rIsX X.K cls C a d) := by
  intro pins s σ H xs us Q I r h
  obtain ⟨c, cv, b, dd, fs, rfl, rfl, rfl, e, hc, k, q⟩ := h
  cases r with
  | cons r1 r2 =>
    cases r2 with
    | cons r3 r4 =>
      cases r4
      cases r1
      have ec := hc _ r3
      subst ec
      obtain ⟨od, J⟩ := exc_inst I hz hf e
      have cl : (PySem.W.clsIn X.K C).isSome = true := by
        obtain ⟨cd, z, _⟩ := PySem.W.any_some T.xf.hdC
        rw [z]; rfl
      exact PySem.W.kia_one (PySem.W.kitx_exc cl T.xf.ga T.xf.gg T.xf.exC T.ha T.hn T.ht T.hm) I.kIn J k (fun z => nomatch z) fun tk => ⟨.bl b, H, I.kept (t' := tk) fun _ _ z => z, rfl, q⟩
end
end Jg

/-! repr of any value that is data -/
namespace Jg
open PySem PySem.Spec PyProof.Rows L2
/-- v is shown as x -/
inductive Shw (K : PySem.W.Frag) (H : Hp) : V → Str → Prop
  | non : Shw K H .non "None"
  | bl (b : Bool) : Shw K H (.bl b) (if b then "True" else "False")
  | int (i : Int) (h : i.natAbs.log2 < 1920) : Shw K H (.int i) (toString i)
  | str (x : Str) (h : (reprText x).length ≤ sizeLine) : Shw K H (.str x) (reprText x)
  | dat {a : Addr} {d : PyData} (h : Dp K H (.ref a) d) (s : d.showable = true) (dp : d.depth ≤ 40) (z : d.shown.length ≤ sizeLine) : Shw K H (.ref a) d.shown
  | dnew {a : Addr} (h : H a = some (.dK [])) : Shw K H (.ref a) (PyData.dict []).shown
theorem Shw.keep {K : PySem.W.Frag} {H H' : Hp} {v : V} {x : Str} (s : Shw K H v x) (k : ∀ d, Dp K H v d → Dp K H' v d) (k2 : ∀ a, H a = some (.dK []) → H' a = some (.dK [])) : Shw K H' v x := by
  cases s with
  | non => exact .non
  | bl b => exact .bl b
  | int i h => exact .int i h
  | str x h => exact .str x h
  | dat h s dp z => exact .dat (k _ h) s dp z
  | dnew h => exact .dnew (k2 _ h)
def rShw (K : PySem.W.Frag) : List V → Hp → VK → Prop := fun xs H Q => ∃ v x, xs = [v] ∧ Shw K H v x ∧ Q (.str x) H
section
variable {X : Cx}
theorem dk_nil {P : Program} {w : World} {H : Hp} {h : Heap} {a : Addr} (ok : HOk P w H h) (e : H a = some (.dK [])) : ∃ as, Reads h (.ref a) (.dict []) as ∧ sysModules ∉ as := by
  obtain ⟨_, na, vs, kv, o, es, n, at_, ex, dt, _, pr, _⟩ := ok a _ e
  cases kv
  have e0 : es.toList = [] := by
    revert pr
    generalize es.toList = l
    intro pr
    cases pr
    rfl
  have r1 : ReadsAll h (es.toList.map (·.key)) (([] : List (PyData × PyData)).map (·.1)) [] := by rw [e0]; exact ReadsAll.nil
  have r2 : ReadsAll h (es.toList.map (·.val)) (([] : List (PyData × PyData)).map (·.2)) [] := by rw [e0]; exact ReadsAll.nil
  refine ⟨_, Reads.dict at_ ex.1 dt r1 r2, fun m => ?_⟩
  have z : sysModules = a := by simpa using m
  rw [← z] at na
  cases na
theorem call_shw (g : X.A.guards = some []) (hu : X.A.units + 64 < cLine) : CallR X (.builtin "repr") (rShw X.K) := by
  intro pins s σ H xs us Q I r h
  obtain ⟨v, x, rfl, sh, q⟩ := h
  obtain ⟨u, rfl, ru⟩ := vals1 r
  cases sh with
  | non => cases ru; exact PySem.P.repr_of_none ⟨.str _, H, I.tok _, ⟨_, rfl⟩, q⟩
  | bl b => cases ru; exact PySem.P.repr_of_bool ⟨.str _, H, I.tok _, ⟨_, rfl⟩, q⟩
  | int i hz => obtain ⟨t, rfl⟩ := ru; exact PySem.P.repr_of_int hz ⟨.str _, H, I.tok _, ⟨_, rfl⟩, q⟩
  | str y hz => obtain ⟨t, rfl⟩ := ru; exact PySem.P.repr_of_str ⟨.str _, H, I.tok _, ⟨_, rfl⟩, q⟩ hz
  | dat hd hs dp hz =>
    cases ru
    obtain ⟨as, R⟩ := Dp.reads I _ _ (.ref _) hd rfl
    exact repr_of_reads' R hs (PyData.noDict_hsm (noDict _ _ _ _ hd)) g (by omega) (fun _ _ e => e) (fun h' u tk hk => ⟨.str _, H, I.kept hk, ⟨_, rfl⟩, q⟩) hz
  | dnew e =>
    cases ru
    obtain ⟨as, R, na⟩ := dk_nil I.hok e
    have dp : (PyData.dict []).depth ≤ 40 := by decide +kernel
    exact repr_of_reads' R (by decide +kernel) (fun _ => na) g (by omega) (fun _ _ e => e) (fun h' u tk hk => ⟨.str _, H, I.kept hk, ⟨_, rfl⟩, q⟩) (by decide +kernel)
end
end Jg

namespace Jg
open PySem PySem.Spec PyProof.Rows L2
theorem bool_in {prog : Program} {w : World} (x : Value) : MeetsIn prog w (Builtin.«bool.__new__» ⟨[.type "bool", x], []⟩) fun A R s => wpAny (model prog w) A.in1 (truthy x) (fun b s' => R (.ok (.ret (.bool b))) s') (fun e s' => R (.error e) s') s := by
  intro A R s h
  have f1 := F.conv_sub_bool
  unfold Builtin.«bool.__new__»
  repeat (any_goals (first | assumption | wp_step))
  all_goals (show wpAny (model prog w) A.in1 (truthy x) _ _ s; exact wpAny_mono h (fun b s' z => wpAny_pure z) fun _ _ z => z)
/-- bool(x) of an instance with an own __bool__ -/
def rBoolO (C : Addr) (sp : Sp) (E : XK) : List V → Hp → VK → Prop := fun xs H Q => ∃ a dx fs, xs = [.ref a] ∧ H a = some (.ins C dx fs) ∧ sp [.ref a] H (fun v H' => ∃ b, v = .bl b ∧ Q (.bl b) H') E
theorem call_boolO {X : Cx} {k j : Nat} {C : Addr} {sp : Sp} (c : Met X.prog X.w X.K X.mg X.base CX0 k C "__bool__" sp) (hr : Room j X.A) (hk : k + 2 ≤ j) : CallR X (.type "bool") (rBoolO C sp E0) := by
  intro pins s σ H xs us Q I r h
  obtain ⟨a, dx, fs, rfl, ea, q⟩ := h
  obtain rfl := Vals.ref1 r
  obtain ⟨f, fd, ps, F, ini, fn, kp, b⟩ := c.ex
  obtain ⟨mA, J, _⟩ := ins_get I.hok ea
  obtain ⟨od, J, _⟩ := J.look
  obtain ⟨m, hF⟩ := I.fr
  have rv : Vals [V.ref a] [Value.ref a] := .cons rfl .nil
  have ln : [Value.ref a].length = ps.length := rv.length.symm.trans (F.len _ _ _ _ q)
  have bd := b s [Value.ref a] I.kIn (by rw [List.append_nil]; exact ln)
  rw [List.append_nil] at bd
  have rm : Room (k + 2) X.A := hr.mono hk
  have run := F.run X.A.in1.in1 X.stack s H ⟨[Value.ref a], []⟩ _ _ _ E0 rm.in1.in1 I.env0.in1.in1 bd rv q
  refine callType_newIn PySem.F.called_bool PySem.F.newNe_bool (PySem.F.typeCall_bool_1 _) (PySem.F.newCall_bool_1 _) (fun obj => PySem.F.args_object_init_2 obj _) PySem.F.entry_bool_new (bool_in _) ?_
  refine PySem.W.truthy_K hF I.ok.mod.kin J ini fn (wpAny_call (codeAny_mono run fun o s2 z => ?_))
  match o, z with
  | .error err, z => exact z.elim
  | .ok (.ret u), z =>
    obtain ⟨v, H2, J3, rv3, bb, rfl, q3⟩ := I.after z
    cases rv3
    exact ⟨PySem.typeIs_bool _ _, .bl bb, H2, J3, rfl, q3⟩
end Jg

/-! own exceptions over any built-in one; methods and classes with keywords that may raise, at the slots as they stand -/
namespace Jg
open PySem PySem.Spec PyProof.Rows L2

/-- the class at C stands over the built-in exception B -/
structure OvB (K : PySem.W.Frag) (C : Addr) (B nid iid : String) (line : List Value) : Prop where
  fB : ExcBaseFacts B nid iid line
  sB : StoreFacts B line "object.__setattr__" "object"
  ini : PySem.W.excInitIn K C line nid = true
  ovr : PySem.W.excOver K C line = true
  hd : PySem.W.hasDictIn K C = true
  sa : PySem.W.findIn K (.ref C) "__setattr__" = some (some (.builtin "object.__setattr__"))
  exC : PySem.W.subIn K (.ref C) (.type "BaseException") = some true
  tyC : PySem.W.typeIn K (.ref C) = some (.type "type")
  kC : PySem.W.keepIn K (.ref C) = true
def Ovr (K : PySem.W.Frag) (C : Addr) : Prop := ∃ B nid iid line, OvB K C B nid iid line
theorem taker0 {K : PySem.W.Frag} {C : Addr} {f : Str} (h : PySem.W.findIn K (.ref C) f = some none) : PySem.W.takerIn K C f = some none := by
  unfold PySem.W.takerIn
  rw [h]
  rfl
section
variable {X : Cx} {pins : List (Addr × Obj)} {σ : L2.St} {H : Hp} {s : Shared} {a C : Addr} {f : Str} {y : V} {u : Value} {Q : Unit → Shared → Prop} {E : Value → Shared → Prop} {A : Around}
/-- the first field of an exception that is being made: its dict comes to be -/
theorem keep_first (T : Ovr X.K C) (I : Inv X pins σ H s) (e : H a = some (exo a C none)) (no : PySem.W.findIn X.K (.ref C) f = some none) (ry : RelV y u)
    (h : ∀ dx s', H dx = none → dx ≠ a → Inv X pins σ (upd (upd H dx (exd dx [(f, y)])) a (exo a C (some dx))) s' → Q () s') : wpAny (model X.prog X.w) A (setAttr (.ref a) f u) Q E s := by
  obtain ⟨B, nid, iid, line, T⟩ := T
  obtain ⟨t1, ho⟩ := exo_at I.hok e
  obtain ⟨cd, hc, hdd⟩ := PySem.W.any_some T.hd
  have kin := I.kIn
  obtain ⟨hp, g, d, t, os⟩ := s
  refine PySem.W.set_plain (ox := PySem.W.excObj C t1 none .none) (od := none) kin ⟨ho, rfl, rfl, trivial⟩ T.sa ?_
  refine PySem.W.osa_openX (od := none) T.sB kin ⟨ho, rfl, rfl, trivial⟩ T.ovr (taker0 no) fun b => ?_
  refine wpAny_bind (wpAny_pure (wpAny_bind (PySem.W.instanceDict_exc ho (PySem.W.looks_clsIn kin hc) hdd ?_)))
  have below : a < hp.objs.size := Heap.lt_size ho
  have apart : a ≠ hp.objs.size := Nat.ne_of_lt below
  have ho2 : (hp.push (PySem.W.dictOf [] 0)).get? a = some (PySem.W.excObj C t1 none .none) := Heap.get?_push_of_some _ ho
  show wpAny _ _ (Builtin.ObjectAttr.storeInDict hp.objs.size (.str f _) f u) _ _ _
  refine HandSPX.store_in_new ⟨_, #[], _, (Heap.get?_update_ne _ _ _ _ apart.symm).trans (Heap.get?_push_at rfl rfl), rfl, fun _ z => absurd z (by simp), fun _ => rfl⟩ fun h2 tk2 ns1 same => ?_
  -- the dict first, then the exception
  obtain ⟨od, es, ep, hod, rest⟩ := id ns1
  have ha2 : h2.get? a = some (PySem.W.excObj C t1 (some hp.objs.size) .none) := (same.2 a apart).trans (Heap.get?_update_self _ ho2 rfl)
  have stays : ∀ c o, c ≠ a → hp.get? c = some o → h2.get? c = some o := fun c o n z =>
    (same.2 c (Nat.ne_of_lt (Heap.lt_size z))).trans ((Heap.get?_update_ne _ _ _ _ n).trans (Heap.get?_push_of_some _ z))
  have nd : H hp.objs.size = none := I.hok.fresh (Nat.le_refl _)
  have fr : od.isFreed = false := (Heap.get?_some_iff.mp hod).2
  have hg : (hp.push od).get? hp.objs.size = some od := Heap.get?_push_at rfl fr
  have I1 : Inv X pins σ (upd H hp.objs.size (exd hp.objs.size [(f, y)])) ⟨hp.push od, g, d, t, os⟩ :=
    I.laid (a := hp.objs.size) (t' := t) (o := exd hp.objs.size [(f, y)]) (h' := hp.push od) (fun c o z => Heap.get?_push_of_some _ z) (Nat.le_refl _)
      (exd_ok (ns1.at fun o z => by rw [hod] at z; cases z; exact hg) (relO_put (fs := []) ry fun _ => True.intro))
  have e1 : upd H hp.objs.size (exd hp.objs.size [(f, y)]) a = some (exo a C none) := by rw [upd_ne apart]; exact e
  have I2 := I1.write (x := a) (e := a) (t' := tk2) (h' := h2) (o := exo a C (some hp.objs.size)) (by rw [e1]; exact True.intro) (.inl rfl)
    (fun c o n z => by
      by_cases k : c = hp.objs.size
      · subst k
        rw [hg] at z
        cases z
        exact hod
      · have z' : hp.get? c = some o := by
          rw [Heap.get?_push_ne _ _ _ k] at z
          exact z
        exact stays c o n z') ⟨_, ha2⟩ (exo_ok ha2)
  exact h _ _ nd apart.symm I2
end
/-- self.f = e in an exception's __init__ -/
def tKeep (K : PySem.W.Frag) (f : Str) (to te : TE) : TS := fun D σ H => te σ H fun y H1 => to σ H1 fun x H2 => ∃ a C : Addr, x = .ref a ∧ Ovr K C ∧ PySem.W.findIn K (.ref C) f = some none ∧
  H2 a = some (exo a C none) ∧ ∀ dx, H2 dx = none → dx ≠ a → D.nx σ (upd (upd H2 dx (exd dx [(f, y)])) a (exo a C (some dx)))
theorem ps_keep {X : Cx} {o e : Expr} {to te : TE} {f : Str} {p' pos : Pos} (ho : PE X o to) (he : PE X e te) (hs : swapsWith e (some (.Attribute o f p')) pos.line X.env = pure false := by rfl) : PS X (.Assign [.Attribute o f p'] e pos) (tKeep X.K f to te) :=
  ⟨fun pins s σ H D I h => plainObj_wpAny_Assign_Attribute (thn (he.run pins s σ H _ I h) fun v s1 ⟨y, H1, I1, r1, q1⟩ => thn (ho.run pins s1 σ H1 _ I1 q1) fun u s2 ⟨x, H2, I2, r2, a, C, ex, T, no, ea, q⟩ => by
    subst ex
    obtain rfl : u = Value.ref a := r2
    exact keep_first T I2 ea no r1 fun dx s' n ne J => ⟨σ, _, J, q dx n ne⟩) hs⟩
/-- an exception class of the program with an own __init__, over any built-in one -/
structure ExnB (P : Program) (w : World) (K : PySem.W.Frag) (mg : Str → Option Value) (base : Heap) (k : Nat) (x : Str) (C : Addr) (sp : Sp) : Prop where
  mg_ : mg x = some (.ref C)
  cls : Ovr K C
  init : ∃ fI fd ps, FnOk P w K mg base CX0 k fI fd ps sp ∧ PySem.W.findIn K (.ref C) "__init__" = some (some (.ref fI)) ∧ PySem.W.typeIn K (.ref fI) = some (.type "function") ∧ Binds K fd ps []
theorem pmk_b {X : Cx} {k j : Nat} {C : Addr} {x : Str} {sp : Sp} {p pos : Pos} {e : Expr} {es : List Expr} {t : TA} (c : ExnB X.prog X.w X.K X.mg X.base k x C sp) (hr : Room j X.A) (hk : k + 1 ≤ j) (hg : Gl X x) (ha : PA X (e :: es) t)
    (hdb : (x == ("__debug__" : Str)) = false := by decide) (he : starEach (e :: es) X.env = (false, eval e X.env) :: starEach es X.env := by rfl) (hpl : (backTo pos (starEach es X.env)).any (·.1) = false := by rfl) :
    PMk X (.Call (.Name x p) (e :: es) [] pos) (tMkO C sp [] t) := by
  obtain ⟨fI, fd, ps, F, at_, ty, b⟩ := c.init
  obtain ⟨B, nid, iid, line, T⟩ := c.cls
  intro pins s σ H Q I h
  refine wpAny_Call_Name_kw (ld_glob I hg c.mg_ (PySem.W.callWith_K (h₀ := X.base) I.ok.mod.kin T.kC (thn (ha.run pos pins s σ H _ I h) fun us s1 ⟨vs, H1, J, rs, short, go⟩ => ⟨J.kIn, ?_⟩) he hpl) hdb)
  obtain ⟨nm, N, qn, bs, bm, hdct, sn, sub, ab, col, dd, k0, k1, k2, k3, k5, hC, same⟩ := PySem.W.excInit_of J.kIn T.ini
  obtain ⟨hp, g, dr, tk, os⟩ := s1
  let n := hp.objs.size
  let h2 := (hp.push (PySem.W.kdv_tup us)).push (HandSPX.excO C n)
  have grown : ∀ b o, hp.get? b = some o → h2.get? b = some o := fun b o z => Heap.get?_push_of_some _ (Heap.get?_push_of_some _ z)
  have here : h2.get? (n + 1) = some (HandSPX.excO C n) := by
    show ((hp.push (PySem.W.kdv_tup us)).push (HandSPX.excO C hp.objs.size)).get? (hp.objs.size + 1) = some (HandSPX.excO C hp.objs.size)
    heap_get
  have hole : H1 (n + 1) = none := J.hok.fresh (Nat.le_succ _)
  have q0 := go (n + 1) hole
  have J2 : Inv X pins σ (upd H1 (n + 1) (exo (n + 1) C none)) ⟨h2, g, dr, tk, os⟩ := J.laid (t' := tk) (a := n + 1) (h' := h2) grown (Nat.le_succ _) (exo_ok here)
  have rel : Vals (V.ref (n + 1) :: (vs ++ [])) (Value.ref (n + 1) :: (us ++ [])) := .cons rfl (rs.append .nil)
  have many : (Value.ref (n + 1) :: us ++ []).length = ps.length := rel.length.symm.trans (F.len _ _ _ _ q0)
  have fits : us.length ≤ sizeLine := by
    have z := Paired.length rs
    rw [sizeLine_eq]
    omega
  have run := F.run _ X.stack _ _ ⟨Value.ref (n + 1) :: us, []⟩ _ _ _ (fun _ _ _ => False) ((hr.mono hk).make C us []) (J2.env0.make C us []) (b _ (Value.ref (n + 1) :: us) J2.kIn many) rel q0
  show wpAny _ _ (call (.ref C) us) _ _ _
  refine wpAny_call (HandSPX.call_own T.fB same hC (PySem.W.looks_findIn J.kIn at_) (fun self => PySem.W.bind_fn J.kIn self ty) fits (codeAny_mono run fun o s2 z => ?_))
  match o, z with
  | .error err, z => exact (pass0 : Passes CX0 X _) pins σ _ _ err s2 J2 z
  | .ok (.ret u), ⟨v, H2, os2, bare2, un2, hok2, rv, ev, d, fs, ea, ed, nd, q2⟩ =>
    subst ev
    exact ⟨rv, mk_end (raises_own T.exC T.tyC) J (Nat.le_succ _) grown un2 hok2 os2 bare2 ea ed nd q2⟩

/-! ### o.m(e, ..) that may raise -/
def tMethS (C : Addr) (m : Str) (sp : Sp) (E : L2.St → XK) (ta : TE) (t : TA) : TE := fun σ H Q => ta σ H fun x H1 => ∃ a dx fs, x = .ref a ∧ H1 a = some (.ins C dx fs) ∧ fs.lookup m = none ∧ t σ H1 fun vs H2 => sp (.ref a :: vs) H2 Q (E σ)
section
variable {X : Cx} {k j : Nat} {C : Addr} {x m : Str} {sp : Sp} {W : WX} {p pos apos : Pos} {e o : Expr} {es : List Expr} {ta : TE} {t : TA}
theorem pe_mS {pl : Sem Bool} (c : Met X.prog X.w X.K X.mg X.base (L2.CX X.prog X.w) k C m sp) (cl : Cls X.K C) (tk : Takes X W) (hr : Room j X.A) (hk : k ≤ j) (he : PE X o ta) (ha : PA X (e :: es) t)
    (hst : starEach (e :: es) X.env = (false, eval e X.env) :: starEach es X.env := by rfl) (hpl : (backTo pos (starEach es X.env)).any (·.1) = false := by rfl)
    (ht : eval (.Call (.Attribute o m apos) (e :: es) [] pos) X.env = (do
      let ov ← eval o X.env
      standAt apos.atName
      let (f, first) ← holding [ov] (getMethod ov m pl)
      callWith pos f first (backTo pos (starEach (e :: es) X.env)) (backToKw pos (keywordEach [] X.env))) := by rfl) :
    PE X (.Call (.Attribute o m apos) (e :: es) [] pos) (tMethS C m sp (WE W) ta t) := by
  obtain ⟨f, fd, ps, F, at_, i, kp, b⟩ := c.ex
  refine ⟨fun pins s σ H Q I h => PySem.W.methodCall_KW (pl := pl) (thn (he.run pins s σ H _ I h) fun u s1 ⟨x, H1, I1, rx, a, dx, fs, ex, ea, l, q⟩ => ?_) ht⟩
  subst ex
  obtain rfl : u = Value.ref a := rx
  refine getmeth_ok I1 ea cl ⟨at_, i, kp⟩ l (PySem.W.callWith_K (first := [.ref a]) (h₀ := X.base) I.ok.mod.kin kp (thn (ha.run pos pins s1 σ H1 _ I1 q) fun us s2 ⟨vs, H2, I2, r, q2⟩ => ⟨I2.kIn, ?_⟩) hst hpl)
  exact run_fnS (E := WE W) (us := .ref a :: us) (vs := .ref a :: vs) F (hr.mono hk) b (passAt tk σ) I2 (.cons rfl r) q2
end
/-! ### C(k = v, ..) -/
/-- __init__ with keyword-only parameters, as the top leaves it -/
structure IniK (K : PySem.W.Frag) (C : Addr) (qual : Str) (st : Stmt) (kws : List (Str × V)) : Prop where
  ex : ∃ f fd, FunD K "__init__" qual (defArgs st) (defBody st) (defScope st) [] kws f fd ∧ PySem.W.findIn K (.ref C) "__init__" = some (some (.ref f)) ∧ PySem.W.isFn K (.ref f) = true
theorem IniK.of {K : PySem.W.Frag} {C : Addr} {qual : Str} {st : Stmt} {f : Addr} {oc : Value} {od an : Option Addr} {osl : Array (Option Value)} {kV doc pm cdv ct : Value} {kws : List (Str × V)}
    (a : PySem.W.findIn K (.ref C) "__init__" = some (some (.ref f))) (i : PySem.W.isFn K (.ref f) = true) (l : K.lookup f = some ⟨oc, od, .func (PySem.W.fnOf "__init__" qual (defArgs st) (defBody st) (defScope st) .none kV doc pm an cdv ct), osl⟩)
    (c : PySem.W.codeIn K cdv qual = true) (k : PySem.W.keepIn K (.ref f) = true) (kw : KwdV K kV kws) : IniK K C qual st kws := ⟨f, _, ⟨⟨oc, od, .none, kV, doc, pm, an, cdv, ct, osl, rfl, l, c, .inl ⟨rfl, rfl⟩, kw⟩, k⟩, a, i⟩
structure MakW (P : Program) (w : World) (K : PySem.W.Frag) (mg : Str → Option Value) (base : Heap) (CX : CXT) (k : Nat) (x : Str) (C : Addr) (ks : List Str) (gV : List V → List V → List V) (sp : Sp) : Prop where
  mg_ : mg x = some (.ref C)
  mks : PySem.W.makesIn K C = true
  kp : PySem.W.keepIn K (.ref C) = true
  ex : ∃ f fd ps g, FnOk P w K mg base CX k f fd ps sp ∧ PySem.W.findIn K (.ref C) "__init__" = some (some (.ref f)) ∧ PySem.W.isFn K (.ref f) = true ∧ KBn K fd ps 1 ks g gV
def tMakeKS (C : Addr) (m : Nat) (sp : Sp) (gV : List V → List V → List V) (E : L2.St → XK) (tk : TA) : TE := fun σ H Q => tk σ H fun zs H2 => zs.length = m ∧ ∀ x dx, H2 x = none → H2 dx = none → dx ≠ x →
  sp (gV [.ref x] zs) (upd (upd H2 dx (.own x)) x (.ins C dx [])) (fun v H3 => v = .non ∧ Q (.ref x) H3) (E σ)
section
variable {X : Cx} {k j : Nat} {C : Addr} {ks : List Str} {sp : Sp} {x : Str} {p pos : Pos} {kws : List Keyword} {ta : TA} {gV : List V → List V → List V} {W : WX}
theorem pe_mkKS (c : MakW X.prog X.w X.K X.mg X.base (L2.CX X.prog X.w) k x C ks gV sp) (tk : Takes X W) (hr : Room j X.A) (hk : k + 1 ≤ j) (hg : Gl X x) (hkw : PK X kws ta)
    (hall : (backToKw pos (keywordEach kws X.env)).all (·.1.isSome) = true := by rfl) (hks : (backToKw pos (keywordEach kws X.env)).filterMap (·.1) = ks := by rfl) (hdb : (x == ("__debug__" : Str)) = false := by decide)
    (hpl : ((backTo pos (starEach [] X.env)).any (·.1) || (backToKw pos (keywordEach kws X.env)).any (·.1.isNone)) = false := by rfl) :
    PE X (.Call (.Name x p) [] kws pos) (tMakeKS C ks.length sp gV (WE W) ta) := by
  obtain ⟨f, fd, ps, g, F, ini, fn, b⟩ := c.ex
  refine ⟨fun pins s σ H Q I h => wpAny_Call_Name_kw (ld_glob I hg c.mg_ (PySem.W.callWith_KW0 (h₀ := X.base) I.ok.mod.kin c.kp hall ?_ hpl) hdb)⟩
  refine thn (hkw.run pos pins s σ H _ I h) fun ws s2 ⟨zs, H2, J, rz, ln, q⟩ => ⟨J.kIn, ?_⟩
  rw [hks]
  let n := s2.heap.objs.size
  have q1 := q (n + 1) n (J.hok.fresh (Nat.le_succ _)) (J.hok.fresh (Nat.le_refl _)) (Nat.ne_of_lt (Nat.lt_succ_self _))
  have J2 := Inv.made (C := C) J
  have r1 : Vals [V.ref (n + 1)] [Value.ref (n + 1)] := .cons rfl .nil
  have run := F.run _ X.stack _ _ ⟨[Value.ref (n + 1)], ks.zip ws⟩ _ _ _ (WE W σ) ((hr.mono hk).make C [] (ks.zip ws)) (J2.env0.make C [] (ks.zip ws)) (b.to _ [Value.ref (n + 1)] ws J2.kIn rfl (rz.length.symm.trans ln)) (b.rel r1 rz) q1
  show wpAny (model X.prog X.w) X.A (call (.ref C) [] (ks.zip ws)) (EP X pins σ Q) X.xe s2
  refine wpAny_call (make_map (f := f) J.kIn c.mks ini (beq_iff_eq.mp fn) (codeAny_mono run fun o s3 z => ?_))
  match o, z with
  | .error err, z => exact passAt tk σ pins _ _ err s3 J2 z
  | .ok (.ret u), z =>
    obtain ⟨v, H3, J3, rv, ev, q3⟩ := J2.after z
    subst ev
    exact ⟨rv, V.ref (n + 1), H3, J3, rfl, q3⟩
end
section
variable {P : Program} {w : World} {K : PySem.W.Frag} {mg : Str → Option Value} {base : Heap} {k : Nat} {C : Addr} {x qual : Str} {st : Stmt} {N ps ks : List Str} {kws : List (Str × V)} {sp : Sp}
theorem IniK.mak (D : IniK K C qual st kws) (m : mg x = some (.ref C)) (mk : PySem.W.makesIn K C = true) (kp : PySem.W.keepIn K (.ref C) = true) (S : FnScope N ps (defScope st)) (len : ∀ vs H Q E, sp vs H Q E → vs.length = ps.length)
    (ms : List (Str × V)) (g : {α : Type} → List α → List α → List α → List α) (hk : kws ≠ []) (hms : ∀ q ∈ ms, q ∈ kws) (hrel : ∀ {vs mz zs : List V} {us mv ws : List Value}, Vals vs us → Vals mz mv → Vals zs ws → Vals (g vs mz zs) (g us mv ws))
    (hb : ∀ (D : Addr) (doc pm : Value) (an : Option Addr) (cdv ct : Value) (us mv ws : List Value), us.length = 1 → mv.length = ms.length → ws.length = ks.length →
      KwChain D ((ms.map (·.1)).zip mv) (bindArgs (PySem.W.fnOf "__init__" qual (defArgs st) (defBody st) (defScope st) .none (.ref D) doc pm an cdv ct) ⟨us, ks.zip ws⟩) (ps.zip (g us mv ws)))
    (body : ∀ f, BodyX P w K mg base N qual st f k sp) : MakW P w K mg base (L2.CX P w) (k + 1) x C ks (fun vs zs => g vs (ms.map (·.2)) zs) sp :=
  let ⟨f, fd, F, a, i⟩ := D.ex
  let ⟨mv, b⟩ := F.kbinds0 1 ks ms g hk hms hrel hb
  ⟨m, mk, kp, f, fd, ps, _, F.ok S len (body f), a, i, b⟩
end
end Jg

/-! x != y by an own ==; == of data, {} among it -/
namespace Jg
open PySem PySem.Spec PyProof.Rows L2 PySem.W
section
variable {prog : Program} {w : World} {A : Around} {E : Value → Shared → Prop} {s : Shared} {K : Frag} {x C f : Addr} {ox : Obj} {od : Option Obj} {b tb : Value}
theorem ne_entry {Q : Fin → Shared → Prop} (hu : A.units < cLine) (X : K.In s.heap) (I : InstAt s.heap x ox C od) (eq : findIn K (.ref C) "__eq__" = some (some (.ref f))) (fn : isFn K (.ref f) = true)
    (h : wpAny (model prog w) A (call (.ref f) [.ref x, b]) (fun v s' => ∃ c, v = .bool c ∧ Q (.done (.ret (.bool (!c)))) s') E s) : wpAny (model prog w) A (Builtin.«object.__ne__» ⟨[.ref x, b], []⟩) Q E s := by
  unfold Builtin.«object.__ne__»
  refine wpAny_bind (wpAny_of_eq (a := ((Value.ref x : Value), [b])) (by first | rfl | (simp only [slotArgs]; rfl)) ?_)
  refine wpAny_bind (wpAny_cRoomFor hu ?_)
  refine wpAny_bind (ifBound_K (args := [b]) X I eq fn (wpAny_mono h (fun v s' z => ?_) fun _ _ z => z))
  obtain ⟨c, rfl, q⟩ := z
  refine wpAny_bind (wpAny_truthy_bool ?_)
  exact wpAny_pure q
theorem ne_K {Q : Value → Shared → Prop} (hu : A.units + 1 < cLine) (X : K.In s.heap) (I : InstAt s.heap x ox C od) (hb : Looks (model prog w) s.heap (typeOf b) tb) (hn : notFirst K C tb = true)
    (ne : findIn K (.ref C) "__ne__" = some (some (.builtin "object.__ne__"))) (mro : mroIn K C (.type "object") = some true) (eq : findIn K (.ref C) "__eq__" = some (some (.ref f))) (fn : isFn K (.ref f) = true)
    (h : wpAny (model prog w) A.in1 (call (.ref f) [.ref x, b]) (fun v s' => ∃ c, v = .bool c ∧ Q (.bool (!c)) s') E s) : wpAny (model prog w) A (richCompare .NotEq (.ref x) b) Q E s := by
  have isO : Looks (model prog w) s.heap (isInstance (.ref x) (.type "object")) true := I.type.andThen (looks_mroIn X mro)
  have one : wpAny (model prog w) A (tryCompare (.ref x) (cmpInfo .NotEq).2.1 b) (fun r s' => ∃ v, r = some v ∧ Q v s') E s := by
    unfold tryCompare
    refine wpAny_bind ?_
    show wpAny _ _ (callSpecialIfBound? (.ref x) "__ne__" [b]) _ _ _
    simp only [callSpecialIfBound?, bindSpecialIfBound?]
    refine wpAny_holding (wpAny_bind (wpAny_bind (wpAny_bind (I.type.here ((looks_findIn X ne).here ?_)))))
    refine wpAny_bind (wpAny_askSetting (wpAny_ite ?_))
    have fin : ∀ R : Option Value → Shared → Prop, (∀ c s', Q (.bool (!c)) s' → R (some (.bool (!c))) s') → wpAny (model prog w) A (call (.builtin "object.__ne__") ([.ref x] ++ [b]) >>= fun v => pure (some v)) R E s := by
      intro R hR
      refine wpAny_bind (wpAny_call (codeAny_call_builtin F.cmp_object.ne.plain F.cmpEntry_ne (check_slot F.cmpKind_ne F.cmpSplit_ne isO (F.cmpArgs_ne _ _) ?_)))
      refine ne_entry (A := A.in1) hu X I eq fn (wpAny_mono h (fun v s' z => ?_) fun _ _ z => z)
      obtain ⟨c, rfl, q⟩ := z
      exact ⟨c, rfl, wpAny_pure (hR c s' q)⟩
    rw [F.cmp_object.ne.bind (.ref x)]
    split
    · refine wpAny_bind (wpAny_pure (wpAny_pure ?_))
      exact fin _ fun c s' q => wpAny_pure ⟨_, rfl, q⟩
    · refine wpAny_tryCatch (wpAny_bind (wpAny_pure (wpAny_pure ?_)))
      exact fin _ fun c s' q => wpAny_pure ⟨_, rfl, q⟩
  unfold richCompare
  simp only [oneThing_ref]
  refine wpAny_holding (wpAny_bind (wpAny_cRoomFor (Nat.lt_of_succ_lt hu) ?_))
  refine wpAny_bind (I.type.here (wpAny_bind (hb.here ?_)))
  have fin : ∀ s', (∃ v, (∃ r, r = some v ∧ Q v s')) → True := fun _ _ => trivial
  split
  · rename_i q
    have e : subIn K tb (.ref C) = some false := by
      rcases Bool.or_eq_true_iff.mp hn with e | e
      · rw [beq_iff_eq.mp e] at q; simp at q
      · exact beq_iff_eq.mp e
    refine wpAny_bind ((looks_subIn X e).here ?_)
    simp only [Bool.false_eq_true, if_false]
    refine wpAny_bind (wpAny_mono one (fun r s' ⟨v, e, hq⟩ => ?_) fun _ _ e => e)
    subst e
    exact wpAny_pure hq
  · refine wpAny_bind (wpAny_pure ?_)
    simp only [Bool.false_eq_true, if_false]
    refine wpAny_bind (wpAny_mono one (fun r s' ⟨v, e, hq⟩ => ?_) fun _ _ e => e)
    subst e
    exact wpAny_pure hq
end
/-- x != y by the own == of x -/
def rOwnNe (K : PySem.W.Frag) (C : Addr) (sp : Sp) (E : XK) : R2 := fun x y H Q => ∃ a dx fs t, x = .ref a ∧ H a = some (.ins C dx fs) ∧ TyX K H y t ∧ PySem.W.notFirst K C t = true ∧ sp [.ref a, y] H (fun v H' => ∃ c, v = .bl c ∧ Q (.bl (!c)) H') E
theorem op_ne_c {X : Cx} {k j : Nat} {C : Addr} {sp : Sp} (c : Met X.prog X.w X.K X.mg X.base CX0 k C "__eq__" sp) (ne : PySem.W.findIn X.K (.ref C) "__ne__" = some (some (.builtin "object.__ne__"))) (mro : PySem.W.mroIn X.K C (.type "object") = some true) (hr : Room j X.A) (hk : k + 1 ≤ j) :
    OpR X (compareOp .NotEq) (rOwnNe X.K C sp E0) := by
  intro pins s σ H x y v u Q I rx ry h
  obtain ⟨f, fd, ps, F, a0, i0, kp, bd⟩ := c.ex
  obtain ⟨a, dx, fs, t, rfl, ha, ty, nf, q⟩ := h
  cases rx
  obtain ⟨mA, J, _⟩ := ins_get I.hok ha
  obtain ⟨od, J, _⟩ := J.look
  obtain ⟨P, Z, p, _⟩ := kit_of I ry ty
  have rm : Room (k + 1) X.A := hr.mono hk
  show wpAny _ _ (richCompare .NotEq (.ref a) u) _ _ _
  have ln : [Value.ref a, u].length = ps.length := (Paired.length (show Vals [V.ref a, y] [Value.ref a, u] from .cons rfl (.cons ry .nil))).symm.trans (F.len _ _ _ _ q)
  have bb := bd s [Value.ref a, u] I.kIn (by rw [List.append_nil]; exact ln)
  rw [List.append_nil] at bb
  have rr : Vals [V.ref a, y] [Value.ref a, u] := .cons rfl (.cons ry .nil)
  have run := F.run X.A.in1 X.stack s H ⟨[Value.ref a, u], []⟩ _ _ _ E0 rm.in1 I.env0.in1 bb rr q
  refine ne_K (tb := t) (Nat.lt_of_le_of_lt (by omega) hr.units) I.kIn J (Z.ty _ _ I.kIn p) nf ne mro a0 i0 (wpAny_call (codeAny_mono run fun o s2 z => ?_))
  match o, z with
  | .error err, z => exact z.elim
  | .ok (.ret u2), z =>
    obtain ⟨v3, H2, J3, rv3, cc, rfl, q3⟩ := I.after z
    cases rv3
    exact ⟨_, rfl, .bl _, H2, J3, rfl, q3⟩
/-- data, {} among it -/
def DpX (K : PySem.W.Frag) (H : Hp) (v : V) (d : PyData) : Prop := Dp K H v d ∨ ∃ a, v = .ref a ∧ H a = some (.dK []) ∧ d = .dict []
theorem DpX.reads {X : Cx} {pins : List (Addr × Obj)} {σ : L2.St} {H : Hp} {s : Shared} (I : Inv X pins σ H s) {d : PyData} {v : V} {u : Value} (h : DpX X.K H v d) (r : RelV v u) : ∃ as, Reads s.heap u d as := by
  rcases h with h | ⟨a, rfl, e, rfl⟩
  · exact Dp.reads I d v u h r
  · cases r
    obtain ⟨as, z, _⟩ := dk_nil I.hok e
    exact ⟨as, z⟩
def rEqX (K : PySem.W.Frag) : R2 := fun x y H Q => ∃ d e, DpX K H x d ∧ DpX K H y e ∧ SeqAt.shaped d = true ∧ SeqAt.shaped e = true ∧ Q (.bl (PyData.eqv d e)) H
theorem op_eqX {X : Cx} (hu : X.A.units + 64 < cLine) : OpR X (compareOp .Eq) (rEqX X.K) := by
  intro pins s σ H x y v u Q I rx ry h
  obtain ⟨d, e, hd, he, sd, se, q⟩ := h
  obtain ⟨as, r1⟩ := hd.reads I rx
  obtain ⟨bs, r2⟩ := he.reads I ry
  exact SeqAt.compareEq_shaped r1 r2 sd se hu ⟨.bl _, H, I, rfl, q⟩
/-! ### {} == 'text' -/
section
variable {prog : Program} {w : World} {A : Around} {E : Value → Shared → Prop} {s : Shared}
theorem str_no_dict {z : Str} {u : Tok} {d : Addr} {o : Obj} {es : Array DictEntry} {n : Nat} (Q : Value → Shared → Prop) (at_ : s.heap.get? d = some o) (c : o.cls = .type "dict") (hd : o.data = .dict es n) (q : Q .notImplemented s) :
    wpAny (model prog w) A (call (.builtin "str.__eq__") [.str z u, .ref d]) Q E s := by
  refine wpAny_call (codeAny_call_builtin F.slot_str_eq.plain F.entry_str_eq (F.slot_str_eq.check _ _ _ _ _ _ _ _ (typeIs_str s z u) (F.args_str_eq_2 _ _) ?_))
  obtain ⟨oc, od, dt, sl⟩ := o
  subst c hd
  obtain ⟨h0, g0, d0, t0, os0⟩ := s
  wp_walk using wpAny_loadPart' at_, wpAny_load at_
  first
    | exact q
    | exact ⟨_, rfl, q⟩
theorem dict_no_str {z : Str} {u : Tok} {d : Addr} {o : Obj} (Q : Value → Shared → Prop) (at_ : s.heap.get? d = some o) (c : o.cls = .type "dict") (q : Q .notImplemented s) :
    wpAny (model prog w) A (call (.builtin "dict.__eq__") [.ref d, .str z u]) Q E s := by
  have ty : s.TypeIs (.ref d) "dict" := ⟨_, at_, c⟩
  refine wpAny_call (codeAny_call_builtin F.slot_dict_eq.plain F.entry_dict_eq (F.slot_dict_eq.check _ _ _ _ _ _ _ _ ty (F.args_dict_eq_2 _ _) ?_))
  refine wpAny_bind ?_
  unfold Builtin.Dict.dictSlotArgs
  refine wpAny_bind (wpAny_notOrdered_dict ty ?_)
  refine wpAny_pure ?_
  refine wpAny_bind (wpAny_isInstance (T := "str") (typeIs_str s z u) F.sub_str_dict ?_)
  simp only [Bool.not_false, if_true]
  refine wpAny_bind (wpAny_rule ?_)
  first
    | exact wpAny_bind (wpAny_pure (wpAny_pure q))
    | exact wpAny_bind (wpAny_bind (wpAny_pure (wpAny_pure q)))
    | exact wpAny_pure q
theorem eq_dict_str {z : Str} {u : Tok} {d : Addr} {o : Obj} {es : Array DictEntry} {n : Nat} {Q : Value → Shared → Prop} (at_ : s.heap.get? d = some o) (c : o.cls = .type "dict") (hd : o.data = .dict es n) (hu : A.units < cLine) (q : Q (.bool false) s) :
    wpAny (model prog w) A (compareOp .Eq (.ref d) (.str z u)) Q E s :=
  SeqAt.rc_eq_decline_or (k := false) ⟨_, at_, c⟩ (typeIs_str s z u) (by decide) F.sub_str_dict F.slot_dict_eq F.slot_str_eq_refl
    (fun Q' h => dict_no_str Q' at_ c h) (fun Q' h => str_no_dict Q' at_ c hd h) (fun Q' h => wpAny_of_eq (rfl : isSame (.ref d) (.str z u) = pure false) h) (.inr hu) q
end
def rEqY (K : PySem.W.Frag) : R2 := fun x y H Q => rEqD K x y H Q ∨ ∃ a z, x = .ref a ∧ y = .str z ∧ H a = some (.dK []) ∧ Q (.bl false) H
theorem op_eqY {X : Cx} (hu : X.A.units + 64 < cLine) : OpR X (compareOp .Eq) (rEqY X.K) := by
  intro pins s σ H x y v u Q I rx ry h
  rcases h with h | ⟨a, z, rfl, rfl, e, q⟩
  · exact op_eqD hu pins s σ H x y v u Q I rx ry h
  · cases rx
    obtain ⟨t, rfl⟩ := ry
    obtain ⟨_, na, vs, kv, o, es, n, at_, ex, dt, _⟩ := I.hok a _ e
    exact eq_dict_str at_ ex.1 dt (by omega) ⟨.bl _, H, I, rfl, q⟩
end Jg

/-! x + v, v + x by the own methods of x, v of a built-in type; they may raise -/
namespace Jg
open PySem PySem.Spec PyProof.Rows L2 PySem.W
/-- what the operator nm finds at a built-in type -/
structure NumT (T nm : String) (fl : Bool) : Prop where
  fills : fillsNumberSlot (.type T) nm = pure fl
  rad : ∃ r, typeLookup (.type T) (dunderR nm) = pure r
section
variable {prog : Program} {w : World} {A : Around} {E : Value → Shared → Prop} {s : Shared} {K : Frag} {x C f : Addr} {ox : Obj} {od : Option Obj} {b : Value} {T : String} {op : Operator}
/-- the class's own reflected method: none, or a def -/
def RadOk (K : Frag) (C : Addr) (nm : String) : Prop := findIn K (.ref C) (dunderR nm) = some none ∨ ∃ g, findIn K (.ref C) (dunderR nm) = some (some (.ref g))
theorem py_slot {M : Model} {h : Heap} {nm : String} (X : K.In h) (hs : findIn K (.ref C) (PySem.dunder nm) = some (some (.ref f))) (hr : RadOk K C nm) : Looks M h (numberSlotInPython (.ref C) nm) true := by
  intro A Q E s k q
  unfold numberSlotInPython
  dsimp only
  refine wpAny_bind (looks_findIn X hs A _ E s k ?_)
  refine wpAny_bind (wpAny_pure ?_)
  rcases hr with e | ⟨g, e⟩
  · refine wpAny_bind (looks_findIn X e A _ E s k ?_)
    refine wpAny_bind (wpAny_pure ?_)
    rw [Bool.true_or, if_pos rfl]
    exact wpAny_pure q
  · refine wpAny_bind (looks_findIn X e A _ E s k ?_)
    refine wpAny_bind (wpAny_pure ?_)
    rw [Bool.true_or, if_pos rfl]
    exact wpAny_pure q
theorem first_of (hc : selfFirst K C = true) : ∃ cd rest, clsIn K C = some cd ∧ cd.mro = .ref C :: rest := by
  obtain ⟨cd, hcd, hm⟩ := any_some hc
  cases q : cd.mro with
  | nil => rw [q] at hm; cases hm
  | cons a r =>
    rw [q] at hm
    have e := beq_iff_eq.mp hm
    rw [List.head?_cons] at e
    cases e
    exact ⟨cd, r, hcd, q⟩
theorem left_K {fl : Bool} {Q : Value → Shared → Prop} (X : K.In s.heap) (I : InstAt s.heap x ox C od) (hb : Looks (model prog w) s.heap (typeOf b) (.type T)) (hc : selfFirst K C = true) (hs : findIn K (.ref C) (PySem.dunder op.info.2) = some (some (.ref f))) (hr : RadOk K C op.info.2)
    (hf : isFn K (.ref f) = true) (N : NumT T op.info.2 fl) (sub : subIn K (.type T) (.ref C) = some false) (h : wpAny (model prog w) A (call (.ref f) [.ref x, b]) (PySem.W.CmpBack Q) E s) : wpAny (model prog w) A (binaryOp op (.ref x) b) Q E s := by
  obtain ⟨cd, rest, hcd, hm⟩ := first_of hc
  have own : ∀ R : Option Value → Shared → Prop, (∀ v s', PySem.W.CmpBack Q v s' → v ≠ .notImplemented → R (some v) s') → wpAny (model prog w) A (tryMethod (.ref x) (PySem.dunder op.info.2) b) R E s := by
    intro R hR
    unfold tryMethod
    refine wpAny_bind (special_fn X I hs (beq_iff_eq.mp hf) (wpAny_mono h (fun v s' hv => ?_) fun _ _ e => e))
    have z := hR v s' hv
    cases v <;> first | exact hv.elim | exact wpAny_pure (z nofun)
  have back : ∀ v s', PySem.W.CmpBack Q v s' → v ≠ .notImplemented → Q v s' := fun v s' hv n => by
    cases v <;> first | exact hv.elim | exact hv
  obtain ⟨r, er⟩ := N.rad
  unfold binaryOp
  refine wpAny_holding (wpAny_bind ?_)
  unfold binaryOp1
  refine wpAny_bind (I.type.here (wpAny_bind (hb.here (wpAny_bind ((fills_K X hcd hm hs).here ?_)))))
  rw [if_neg (show ¬ ((Value.ref C == Value.type T) = true) from by rw [show (Value.ref C == Value.type T) = false from rfl]; decide)]
  refine wpAny_bind (wpAny_of_eq N.fills ?_)
  cases fl with
  | false =>
    simp only [Bool.and_false, Bool.false_eq_true, if_false, Bool.false_and]
    refine wpAny_bind (wpAny_pure ?_)
    simp only [Bool.false_eq_true, if_false]
    refine wpAny_bind (m := tryMethod (.ref x) _ b) (own _ fun v s' hv n => ?_)
    exact wpAny_pure (wpAny_pure (back v s' hv n))
  | true =>
    simp only [Bool.and_self, if_true]
    refine wpAny_bind (m := isSubtype _ _) ((looks_subIn X sub).here ?_)
    simp only [Bool.false_eq_true, if_false]
    refine wpAny_bind (m := numberSlotInPython _ _) ((py_slot X hs hr).here ?_)
    simp only [if_true]
    refine wpAny_bind (m := numberSlotInPython _ _) (wpAny_pure ?_)
    simp only [Bool.not_false, if_true]
    refine wpAny_bind (m := typeLookup _ _) (wpAny_of_eq er ?_)
    refine wpAny_bind (m := tryMethod (.ref x) _ b) (own _ fun v s' hv n => ?_)
    exact wpAny_pure (wpAny_pure (back v s' hv n))
/-- int.__add__ declines an instance -/
theorem int_no {i : Int} {t : Tok} {dx : Addr} (Q : Value → Shared → Prop) (at_ : s.heap.get? x = some (instObj C dx)) (q : Q .notImplemented s) : wpAny (model prog w) A (call (.builtin "int.__add__") [.int i t, .ref x]) Q E s := by
  refine wpAny_call (codeAny_call_builtin F.slot_int_add.plain F.entry_int_add (F.slot_int_add.check _ _ _ _ _ _ _ _ (typeIs_int s i t) (F.args_int_add_2 _ _) ?_))
  unfold instObj at at_
  obtain ⟨h0, g0, d0, t0, os0⟩ := s
  wp_walk using wpAny_loadPart' at_, wpAny_load at_
  first
    | exact q
    | exact ⟨_, rfl, q⟩
theorem bool_no {c : Bool} {dx : Addr} (Q : Value → Shared → Prop) (at_ : s.heap.get? x = some (instObj C dx)) (q : Q .notImplemented s) : wpAny (model prog w) A (call (.builtin "int.__add__") [.bool c, .ref x]) Q E s := by
  refine wpAny_call (codeAny_call_builtin F.slot_bool_add.plain F.entry_int_add (F.slot_bool_add.check _ _ _ _ _ _ _ _ rfl (F.args_int_add_2 _ _) ?_))
  unfold instObj at at_
  obtain ⟨h0, g0, d0, t0, os0⟩ := s
  wp_walk using wpAny_loadPart' at_, wpAny_load at_
  first
    | exact q
    | exact ⟨_, rfl, q⟩
/-- what stands left of the operator: it leaves it to the other side -/
def Leaves (prog : Program) (w : World) (T nm : String) (fl : Bool) (a : Value) (x : Addr) : Prop :=
  fl = true → ∀ (A : Around) (E : Value → Shared → Prop) (s : Shared) (C dx : Addr) (R : Option Value → Shared → Prop), s.heap.get? x = some (instObj C dx) → R none s → wpAny (model prog w) A (tryMethod a (PySem.dunder nm) (.ref x)) R E s
theorem leaves_no {T nm : String} {a : Value} : Leaves prog w T nm false a x := fun z => nomatch z
theorem leaves_int {i : Int} {t : Tok} : Leaves prog w "int" "add" true (.int i t) x := fun _ A E s C dx R at_ r => by
  unfold tryMethod callSpecial? specialOf
  refine wpAny_bind (wpAny_bind (wpAny_bind (wpAny_typeOf (typeIs_int s i t) (wpAny_of_eq F.slot_int_add.lookup ?_))))
  refine wpAny_holding (wpAny_bind (wpAny_of_eq (F.slot_int_add.bind _) (wpAny_bind (int_no _ at_ ?_))))
  exact wpAny_pure (wpAny_pure r)
theorem leaves_bool {c : Bool} : Leaves prog w "bool" "add" true (.bool c) x := fun _ A E s C dx R at_ r => by
  unfold tryMethod callSpecial? specialOf
  refine wpAny_bind (wpAny_bind (wpAny_bind (wpAny_typeOf (T := "bool") rfl (wpAny_of_eq F.slot_bool_add.lookup ?_))))
  refine wpAny_holding (wpAny_bind (wpAny_of_eq (F.slot_bool_add.bind _) (wpAny_bind (bool_no _ at_ ?_))))
  exact wpAny_pure (wpAny_pure r)
theorem right_K {fl : Bool} {a : Value} {g dx : Addr} {Q : Value → Shared → Prop} (X : K.In s.heap) (I : InstAt s.heap x ox C od) (at_ : s.heap.get? x = some (instObj C dx)) (ha : Looks (model prog w) s.heap (typeOf a) (.type T)) (hc : selfFirst K C = true) (hs : findIn K (.ref C) (PySem.dunder op.info.2) = some (some (.ref f)))
    (hr : findIn K (.ref C) (dunderR op.info.2) = some (some (.ref g))) (hg : isFn K (.ref g) = true) (N : fillsNumberSlot (.type T) op.info.2 = pure fl) (lv : Leaves prog w T op.info.2 fl a x) (sub : subIn K (.ref C) (.type T) = some false)
    (h : wpAny (model prog w) A (call (.ref g) [.ref x, a]) (PySem.W.CmpBack Q) E s) : wpAny (model prog w) A (binaryOp op a (.ref x)) Q E s := by
  obtain ⟨cd, rest, hcd, hm⟩ := first_of hc
  have own : ∀ R : Option Value → Shared → Prop, (∀ v s', PySem.W.CmpBack Q v s' → v ≠ .notImplemented → R (some v) s') → wpAny (model prog w) A (tryMethod (.ref x) (dunderR op.info.2) a) R E s := by
    intro R hR
    unfold tryMethod
    refine wpAny_bind (special_fn X I hr (beq_iff_eq.mp hg) (wpAny_mono h (fun v s' hv => ?_) fun _ _ e => e))
    have z := hR v s' hv
    cases v <;> first | exact hv.elim | exact wpAny_pure (z nofun)
  have back : ∀ v s', PySem.W.CmpBack Q v s' → v ≠ .notImplemented → Q v s' := fun v s' hv n => by
    cases v <;> first | exact hv.elim | exact hv
  unfold binaryOp
  refine wpAny_holding (wpAny_bind ?_)
  unfold binaryOp1
  refine wpAny_bind (ha.here (wpAny_bind (I.type.here (wpAny_bind (wpAny_of_eq N ?_)))))
  rw [if_neg (show ¬ ((Value.type T == Value.ref C) = true) from by rw [show (Value.type T == Value.ref C) = false from rfl]; decide)]
  refine wpAny_bind ((fills_K X hcd hm hs).here ?_)
  cases fl with
  | false =>
    simp only [Bool.and_true, Bool.false_eq_true, if_false, Bool.false_and]
    refine wpAny_bind (wpAny_pure ?_)
    simp only [Bool.false_eq_true, if_false, Bool.not_false, Bool.and_true, if_true]
    refine wpAny_bind (m := tryMethod (.ref x) _ a) (own _ fun v s' hv n => ?_)
    exact wpAny_bind (wpAny_rule (wpAny_pure (wpAny_pure (back v s' hv n))))
  | true =>
    simp only [Bool.and_self, if_true]
    refine wpAny_bind (m := isSubtype _ _) ((looks_subIn X sub).here ?_)
    simp only [Bool.false_eq_true, if_false]
    refine wpAny_bind (m := numberSlotInPython _ _) (wpAny_pure ?_)
    simp only [Bool.false_eq_true, if_false]
    refine wpAny_bind (m := tryMethod a _ (.ref x)) (lv rfl _ _ _ _ _ _ at_ ?_)
    simp only [Bool.not_false, if_true]
    refine wpAny_bind (m := tryMethod (.ref x) _ a) (own _ fun v s' hv n => ?_)
    exact wpAny_bind (wpAny_rule (wpAny_pure (wpAny_pure (back v s' hv n))))
end
theorem fills_no {T nm : String} {f r : Option Value} (h1 : typeLookup (.type T) (PySem.dunder nm) = pure f) (h2 : typeLookup (.type T) (dunderR nm) = pure r) (e : ((f.isSome && !isSeqSlot f) || (r.isSome && !isSeqSlot r)) = false) : fillsNumberSlot (.type T) nm = pure false := by
  unfold fillsNumberSlot
  dsimp only
  rw [h1, pure_bind, h2, pure_bind, e]
theorem num_str_add : NumT "str" "add" false := ⟨fills_no (f := some (.builtin "str.__add__")) (r := none) (by rw [typeLookup_type, builtinLookup_eq_fast]; kernel_rfl) (by rw [typeLookup_type, builtinLookup_eq_fast]; kernel_rfl) (by decide +kernel), ⟨none, by rw [typeLookup_type, builtinLookup_eq_fast]; kernel_rfl⟩⟩
theorem num_str_sub : NumT "str" "sub" false := ⟨fills_no (f := none) (r := none) (by rw [typeLookup_type, builtinLookup_eq_fast]; kernel_rfl) (by rw [typeLookup_type, builtinLookup_eq_fast]; kernel_rfl) (by decide +kernel), ⟨none, by rw [typeLookup_type, builtinLookup_eq_fast]; kernel_rfl⟩⟩
theorem num_tuple_add : NumT "tuple" "add" false := ⟨fills_no (f := some (.builtin "tuple.__add__")) (r := none) (by rw [typeLookup_type, builtinLookup_eq_fast]; kernel_rfl) (by rw [typeLookup_type, builtinLookup_eq_fast]; kernel_rfl) (by decide +kernel), ⟨none, by rw [typeLookup_type, builtinLookup_eq_fast]; kernel_rfl⟩⟩
theorem num_tuple_sub : NumT "tuple" "sub" false := ⟨fills_no (f := none) (r := none) (by rw [typeLookup_type, builtinLookup_eq_fast]; kernel_rfl) (by rw [typeLookup_type, builtinLookup_eq_fast]; kernel_rfl) (by decide +kernel), ⟨none, by rw [typeLookup_type, builtinLookup_eq_fast]; kernel_rfl⟩⟩
theorem num_list_add : NumT "list" "add" false := ⟨fills_no (f := some (.builtin "list.__add__")) (r := none) (by rw [typeLookup_type, builtinLookup_eq_fast]; kernel_rfl) (by rw [typeLookup_type, builtinLookup_eq_fast]; kernel_rfl) (by decide +kernel), ⟨none, by rw [typeLookup_type, builtinLookup_eq_fast]; kernel_rfl⟩⟩
theorem num_list_sub : NumT "list" "sub" false := ⟨fills_no (f := none) (r := none) (by rw [typeLookup_type, builtinLookup_eq_fast]; kernel_rfl) (by rw [typeLookup_type, builtinLookup_eq_fast]; kernel_rfl) (by decide +kernel), ⟨none, by rw [typeLookup_type, builtinLookup_eq_fast]; kernel_rfl⟩⟩
theorem num_int_add : NumT "int" "add" true := ⟨F.fills_int_add, ⟨some (.builtin "int.__radd__"), by rw [typeLookup_type, builtinLookup_eq_fast]; kernel_rfl⟩⟩
theorem num_int_sub : NumT "int" "sub" true := ⟨F.fills_int_sub, ⟨some (.builtin "int.__rsub__"), by rw [typeLookup_type, builtinLookup_eq_fast]; kernel_rfl⟩⟩
theorem num_bool_add : NumT "bool" "add" true := ⟨F.fills_bool_add, ⟨some (.builtin "int.__radd__"), by rw [typeLookup_type, builtinLookup_eq_fast]; kernel_rfl⟩⟩
theorem num_bool_sub : NumT "bool" "sub" true := ⟨F.fills_bool_sub, ⟨some (.builtin "int.__rsub__"), by rw [typeLookup_type, builtinLookup_eq_fast]; kernel_rfl⟩⟩
/-! ### the operators at the slots as they stand -/
/-- x op y, x an instance, y of a built-in type -/
def rLeft (K : PySem.W.Frag) (C : Addr) (nm : String) (sp : Sp) (E : XK) : R2 := fun x y H Q => ∃ a dx fs T fl, x = .ref a ∧ H a = some (.ins C dx fs) ∧ TyX K H y (.type T) ∧ NumT T nm fl ∧ PySem.W.subIn K (.type T) (.ref C) = some false ∧ sp [.ref a, y] H Q E
def LvV (x : V) (T nm : String) (fl : Bool) : Prop := fl = false ∨ nm = "add" ∧ ((∃ i, x = .int i ∧ T = "int") ∨ ∃ b, x = .bl b ∧ T = "bool")
/-- y op x, y of a built-in type, x an instance -/
def rRight (K : PySem.W.Frag) (C : Addr) (nm : String) (sp : Sp) (E : XK) : R2 := fun x y H Q => ∃ a dx fs T fl, y = .ref a ∧ H a = some (.ins C dx fs) ∧ TyX K H x (.type T) ∧ NumT T nm fl ∧ LvV x T nm fl ∧ PySem.W.subIn K (.ref C) (.type T) = some false ∧ sp [.ref a, x] H Q E
def tOpS (r : L2.St → R2) (ta tb : TE) : TE := fun σ H Q => ta σ H fun x H1 => tb σ H1 fun y H2 => r σ x y H2 Q
section
variable {X : Cx} {W : WX} {k j : Nat} {C : Addr} {sp : Sp} {op : Operator} {e o : Expr} {ta tb : TE} {pos : Pos}
/-- what an operator of the class must be -/
structure Bin (K : PySem.W.Frag) (C : Addr) (nm : String) : Prop where
  sf : PySem.W.selfFirst K C = true
  rad : RadOk K C nm
theorem pe_left (c : Met X.prog X.w X.K X.mg X.base (L2.CX X.prog X.w) k C (PySem.dunder op.info.2) sp) (B : Bin X.K C op.info.2) (tk : Takes X W) (hr : Room j X.A) (hk : k ≤ j) (ha : PE X o ta) (hb : PE X e tb) : PE X (.BinOp o op e pos) (tOpS (fun σ => rLeft X.K C op.info.2 sp (WE W σ)) ta tb) := by
  obtain ⟨f, fd, ps, F, a0, i0, kp, b⟩ := c.ex
  refine ⟨fun pins s σ H Q I h => wpAny_BinOp (binT (R := fun x y H2 => rLeft X.K C op.info.2 sp (WE W σ) x y H2 Q) ha hb I h fun v u s2 x y H2 I2 rx ry q => ?_)⟩
  obtain ⟨a, dx, fs, T, fl, rfl, ea, ty, N, sub, q⟩ := q
  cases rx
  obtain ⟨mA, J0, _⟩ := ins_get I2.hok ea
  obtain ⟨od, J, _⟩ := J0.look
  obtain ⟨P, Z, p, _⟩ := kit_of I2 ry ty
  refine left_K I2.kIn J (Z.ty _ _ I2.kIn p) B.sf a0 B.rad i0 N sub ?_
  exact wpAny_mono (run_fnS (E := WE W) (us := [.ref a, u]) (vs := [.ref a, y]) F (hr.mono hk) b (passAt tk σ) I2 (.cons rfl (.cons ry .nil)) q) (fun _ _ z => back_of z) fun _ _ z => z
theorem pe_right (c : Met X.prog X.w X.K X.mg X.base (L2.CX X.prog X.w) k C (dunderR op.info.2) sp) (B : Bin X.K C op.info.2) {f : Addr} (own : PySem.W.findIn X.K (.ref C) (PySem.dunder op.info.2) = some (some (.ref f))) (tk : Takes X W) (hr : Room j X.A) (hk : k ≤ j) (ha : PE X e ta) (hb : PE X o tb) : PE X (.BinOp e op o pos) (tOpS (fun σ => rRight X.K C op.info.2 sp (WE W σ)) ta tb) := by
  obtain ⟨g, fd, ps, F, a0, i0, kp, b⟩ := c.ex
  refine ⟨fun pins s σ H Q I h => wpAny_BinOp (binT (R := fun x y H2 => rRight X.K C op.info.2 sp (WE W σ) x y H2 Q) ha hb I h fun v u s2 x y H2 I2 rx ry q => ?_)⟩
  obtain ⟨a, dx, fs, T, fl, rfl, ea, ty, N, lv, sub, q⟩ := q
  cases ry
  obtain ⟨mA, J0, _⟩ := ins_get I2.hok ea
  obtain ⟨od, J, _⟩ := J0.look
  obtain ⟨P, Z, p, _⟩ := kit_of I2 rx ty
  have lv' : Leaves X.prog X.w T op.info.2 fl v a := by
    rcases lv with e | ⟨e, ⟨i, e1, e2⟩ | ⟨c, e1, e2⟩⟩
    · subst e; exact leaves_no
    · rw [e]
      subst e1 e2
      obtain ⟨t, rfl⟩ := rx
      exact fun _ => leaves_int rfl
    · rw [e]
      subst e1 e2
      cases rx
      exact fun _ => leaves_bool rfl
  refine right_K I2.kIn J J0.obj (Z.ty _ _ I2.kIn p) B.sf own a0 i0 N.fills lv' sub ?_
  exact wpAny_mono (run_fnS (E := WE W) (us := [.ref a, v]) (vs := [.ref a, x]) F (hr.mono hk) b (passAt tk σ) I2 (.cons rfl (.cons rx .nil)) q) (fun _ _ z => back_of z) fun _ _ z => z
end
/-! ### the truth of an instance -/
theorem pt_own {X : Cx} {k j : Nat} {C : Addr} {sp : Sp} {a : Expr} {ta : TE} (c : Met X.prog X.w X.K X.mg X.base CX0 k C "__bool__" sp) (hr : Room j X.A) (hk : k ≤ j) (ha : PE X a ta) (he : ∀ whole, isTrue a X.env whole = (do let v ← whole; standAt a.pos; holding [v] (truthy v)) := by intro _; rfl) :
    PT X a (fun σ H Q => ta σ H fun x H' => ∃ p dx fs, x = .ref p ∧ H' p = some (.ins C dx fs) ∧ sp [.ref p] H' (fun v H2 => ∃ b, v = .bl b ∧ Q b H2) E0) := by
  refine ⟨fun pins s σ H Q I h => isTrue_plain (thn (ha.run pins s σ H _ I h) fun v s1 ⟨x, H1, I1, r1, q1⟩ => ?_) (he _)⟩
  obtain ⟨p, dx, fs, rfl, ea, q⟩ := q1
  cases r1
  obtain ⟨f, fd, ps, F, ini, fn, kp, b⟩ := c.ex
  obtain ⟨mA, J, _⟩ := ins_get I1.hok ea
  obtain ⟨od, J, _⟩ := J.look
  obtain ⟨m, hF⟩ := I1.fr
  refine PySem.W.truthy_K hF I1.ok.mod.kin J ini fn ?_
  refine wpAny_mono (run_fn (us := [.ref p]) (vs := [.ref p]) F (hr.mono hk) b .nil pass0 I1 (.cons rfl .nil) q) (fun u s2 z => ?_) fun _ _ z => z
  obtain ⟨w', H2, I2, rw', bb, rfl, q3⟩ := z
  cases rw'
  exact ⟨H2, I2, q3⟩
/-! ### C.m(e), m a classmethod that may raise -/
open ClX in
theorem pe_cmS {X : Cx} {W : WX} {k j : Nat} {C : Addr} {mc : Value} {m : Str} {sp : Sp} {o e : Expr} {es : List Expr} {ta : TE} {t : TA} {pos apos : Pos} {pl : Sem Bool} (c : Cmt X.prog X.w X.K X.mg X.base (L2.CX X.prog X.w) k C mc m sp) (tk : Takes X W) (hr : Room j X.A) (hk : k ≤ j) (he : PE X o ta) (ha : PA X (e :: es) t)
    (hst : starEach (e :: es) X.env = (false, eval e X.env) :: starEach es X.env := by rfl) (hpl : (backTo pos (starEach es X.env)).any (·.1) = false := by rfl)
    (ht : eval (.Call (.Attribute o m apos) (e :: es) [] pos) X.env = (do
      let ov ← eval o X.env
      standAt apos.atName
      let (f, first) ← holding [ov] (getMethod ov m pl)
      callWith pos f first (backTo pos (starEach (e :: es) X.env)) (backToKw pos (keywordEach [] X.env))) := by rfl) :
    PE X (.Call (.Attribute o m apos) (e :: es) [] pos) (fun σ H Q => ta σ H fun x H1 => x = .ref C ∧ t σ H1 fun vs H2 => sp (.ref C :: vs) H2 Q (WE W σ)) := by
  obtain ⟨q0, f, fd, ps, F, r, a, b⟩ := c.ex
  refine ⟨fun pins s σ H Q I h => PySem.W.methodCall_KW (pl := pl) (thn (he.run pins s σ H _ I h) fun u s1 ⟨x, H1, I1, rx, ex, q⟩ => ?_) ht⟩
  subst ex
  obtain rfl : u = Value.ref C := rx
  refine getmethcm_ok I1 r a fun s2 I2 => ?_
  refine callwith_cm I2 (base_none I1 (Nat.le_refl _)) a.fi (thn (ha.run pos _ s2 σ H1 _ I2 q) fun us s3 ⟨vs, H2, I3, rv, q2⟩ => ⟨⟨pin_at I3, I3.kIn⟩, ?_⟩) hst hpl
  have rr : Vals (V.ref C :: vs) (Value.ref C :: us) := .cons rfl rv
  have ln : (Value.ref C :: us).length = ps.length := rr.length.symm.trans (F.len _ _ _ _ q2)
  have bd := b s3 (Value.ref C :: us) I3.kIn (by rw [List.append_nil]; exact ln)
  rw [List.append_nil] at bd
  have run := F.run X.A X.stack s3 H2 ⟨Value.ref C :: us, []⟩ _ _ _ (WE W σ) (hr.mono hk) I3.env0 bd rr q2
  have z : wpAny (model X.prog X.w) X.A (call (.ref s1.heap.objs.size) us) (EP X ((s1.heap.objs.size, PySem.W.methodObj (.ref f) (.ref C)) :: pins) σ Q) X.xe s3 :=
    wpAny_call (PySem.W.method_call (pin_at I3) (codeAny_mono run fun o s4 z => match o, z with
      | .error err, z => passAt tk σ _ _ _ err s4 I3 z
      | .ok (.ret u), z => I3.after z))
  exact thn z fun _ _ y => unpinE y
section
variable {P : Program} {w : World} {K : PySem.W.Frag} {mg : Str → Option Value} {base : Heap} {k : Nat} {C : Addr} {mc : Value} {m qual : Str} {st : Stmt} {N ps : List Str} {sp : Sp}
theorem CmtK.cmtX (D : CmtK K C mc m qual st) (S : FnScope N ps (defScope st)) (b : BindOk m qual st ps) (len : ∀ vs H Q E, sp vs H Q E → vs.length = ps.length) (hb : ∀ f, BodyX P w K mg base N qual st f k sp) : Cmt P w K mg base (L2.CX P w) (k + 1) C mc m sp :=
  let ⟨p, f, fd, F, r, a⟩ := D.ex
  ⟨p, f, fd, ps, F.okX S len (hb f), r, a, F.binds b⟩
end
/-! ### str(x) by an own __str__ -/
theorem str_in {prog : Program} {w : World} (x : Value) : MeetsIn prog w (Builtin.«str.__new__» ⟨[.type "str", x], []⟩) fun A R s => wpAny (model prog w) A.in1 (Builtin.Str.strOf x) (fun v s' => R (.ok (.ret v)) s') (fun e s' => R (.error e) s') s := by
  intro A R s h
  rw [str_new_tree x]
  refine wpAny_bind (wpAny_pure (wpAny_bind (wpAny_of_eq isSubtype_str_str ?_)))
  exact wpAny_bind (wpAny_mono h (fun v s' z => wpAny_pure z) fun _ _ z => z)
def rStrO (C : Addr) (sp : Sp) (E : XK) : List V → Hp → VK → Prop := fun xs H Q => ∃ a dx fs, xs = [.ref a] ∧ H a = some (.ins C dx fs) ∧ sp [.ref a] H (fun v H' => ∃ z, v = .str z ∧ Q (.str z) H') E
theorem call_strO {X : Cx} {k j : Nat} {C : Addr} {sp : Sp} (c : Met X.prog X.w X.K X.mg X.base CX0 k C "__str__" sp) (hr : Room j X.A) (hk : k + 2 ≤ j) : CallR X (.type "str") (rStrO C sp E0) := by
  intro pins s σ H xs us Q I r h
  obtain ⟨a, dx, fs, rfl, ea, q⟩ := h
  obtain rfl := Vals.ref1 r
  obtain ⟨f, fd, ps, F, ini, fn, kp, b⟩ := c.ex
  obtain ⟨mA, J, _⟩ := ins_get I.hok ea
  obtain ⟨od, J, _⟩ := J.look
  have rv : Vals [V.ref a] [Value.ref a] := .cons rfl .nil
  have ln : [Value.ref a].length = ps.length := rv.length.symm.trans (F.len _ _ _ _ q)
  have bd := b s [Value.ref a] I.kIn (by rw [List.append_nil]; exact ln)
  rw [List.append_nil] at bd
  have rm : Room (k + 2) X.A := hr.mono hk
  have run := F.run X.A.in1.in1 X.stack s H ⟨[Value.ref a], []⟩ _ _ _ E0 rm.in1.in1 I.env0.in1.in1 bd rv q
  refine callType_newIn PySem.F.called_str (by decide) (PySem.F.typeCall_str_1 _) (PySem.F.newCall_str_1 _) (fun obj => PySem.F.args_object_init_2 obj _) PySem.F.entry_str_new (str_in _) ?_
  unfold Builtin.Str.strOf
  refine wpAny_bind (wpAny_cRoomFor (Nat.lt_of_le_of_lt (by show X.A.units + 2 ≤ X.A.units + 64; omega) hr.units) ?_)
  refine wpAny_bind (special_fn I.kIn J ini (beq_iff_eq.mp fn) (wpAny_call (codeAny_mono run fun o s2 z => ?_)))
  match o, z with
  | .error err, z => exact z.elim
  | .ok (.ret u), z =>
    obtain ⟨v, H2, J3, rv3, zz, rfl, q3⟩ := I.after z
    obtain ⟨t, rfl⟩ := rv3
    refine wpAny_bind (wpAny_pure ?_)
    exact wpAny_pure ⟨typeIs_str _ _ _, .str zz, H2, J3, ⟨_, rfl⟩, q3⟩
end Jg

/-! o[i] = v, o[i], len(o) by the own methods of an instance; they may raise -/
namespace Jg
open PySem PySem.Spec PyProof.Rows L2
/-- o[i] = v by an own __setitem__ -/
def gSubO (C : Addr) (sp : Sp) (E : L2.St → XK) (to ti : TE) : TG := fun v σ H Q => to σ H fun o H1 => ti σ H1 fun i H2 => ∃ a dx fs, o = .ref a ∧ H2 a = some (.ins C dx fs) ∧ sp [.ref a, i, v] H2 (fun w H3 => w = .non ∧ Q σ H3) (E σ)
section
variable {X : Cx} {W : WX} {k j : Nat} {C : Addr} {sp : Sp} {o i e : Expr} {to ti ta tb : TE} {pos : Pos}
theorem pg_subO (c : Met X.prog X.w X.K X.mg X.base (L2.CX X.prog X.w) k C "__setitem__" sp) (ns : PySem.W.noSeq X.K C = true) (tk : Takes X W) (hr : Room j X.A) (hk : k ≤ j) (ho : PE X o to) (hi : PE X i ti)
    (ha : ∀ v, assign (.Subscript o i pos) X.env v = (do
      let ov ← holding [v] (eval o X.env)
      let iv ← holding [v, ov] (eval i X.env)
      standAt pos
      holding [v, ov, iv] (setItem ov iv v)
      release [v, ov, iv] []) := by intro _; rfl) : PG X (.Subscript o i pos) (gSubO C sp (WE W) to ti) := by
  obtain ⟨f, fd, ps, F, at_, fn, kp, b⟩ := c.ex
  refine ⟨fun pins s σ H v u Q I r h => ?_⟩
  rw [ha]
  refine wpAny_bind (wpAny_holding (thn (ho.run pins s σ H _ I h) fun ov s1 ⟨x, H1, I1, r1, q1⟩ => ?_))
  refine wpAny_bind (wpAny_holding (thn (hi.run pins s1 σ H1 _ I1 q1) fun iv s2 ⟨y, H2, I2, r2, a, dx, fs, ex, ea, q2⟩ => ?_))
  subst ex
  obtain rfl : ov = Value.ref a := r1
  obtain ⟨mA, J0, _⟩ := ins_get I2.hok ea
  obtain ⟨od, J, _⟩ := J0.look
  obtain ⟨m, hF⟩ := I2.fr
  refine wpAny_bind (wpAny_standAt (wpAny_bind (wpAny_holding (PySem.W.ksp_setItem hF I2.ok.mod.kin J ns at_ fn ?_))))
  refine wpAny_mono (run_fnS (E := WE W) (us := [.ref a, iv, u]) (vs := [.ref a, y, v]) F (hr.mono hk) b (passAt tk σ) I2 (.cons rfl (.cons r2 (.cons r .nil))) q2) (fun w s3 ⟨x3, H3, I3, r3, e3, q3⟩ => ?_) fun _ _ z => z
  exact wpAny_release ⟨σ, H3, I3, q3⟩
/-- o[i] by an own __getitem__ -/
def rIxO (C : Addr) (sp : Sp) (E : XK) : R2 := fun x y H Q => ∃ a dx fs, x = .ref a ∧ H a = some (.ins C dx fs) ∧ sp [.ref a, y] H Q E
def OwnIx (b : Expr) : Prop := ∀ o i, subscripted b true o i = runValue (.builtin "lifetime.subscript" ⟨[o, i], []⟩)
theorem pe_ixO (c : Met X.prog X.w X.K X.mg X.base (L2.CX X.prog X.w) k C "__getitem__" sp) (fi : ∀ f, PySem.W.findIn X.K (.ref C) "__getitem__" = some (some (.ref f)) → PySem.W.fnIn X.K f = true) (tk : Takes X W) (hr : Room j X.A) (hk : k + 1 ≤ j) (ha : PE X o ta) (hb : PE X e tb) (hs : OwnIx e) :
    PE X (.Subscript o e pos) (tOpS (fun σ => rIxO C sp (WE W σ)) ta tb) := by
  obtain ⟨f, fd, ps, F, at_, fn, kp, b⟩ := c.ex
  refine ⟨fun pins s σ H Q I h => ?_⟩
  refine Subscript_ (binT (R := fun x y H2 => rIxO C sp (WE W σ) x y H2 Q) ha hb I h fun v u s2 x y H2 I2 rx ry q => ?_)
  obtain ⟨a, dx, fs, rfl, ea, q⟩ := q
  cases rx
  obtain ⟨mA, J0, _⟩ := ins_get I2.hok ea
  obtain ⟨od, J, _⟩ := J0.look
  obtain ⟨m, hF⟩ := I2.fr
  have rv : Vals [V.ref a, y] [Value.ref a, u] := .cons rfl (.cons ry .nil)
  have ln : [Value.ref a, u].length = ps.length := rv.length.symm.trans (F.len _ _ _ _ q)
  have bd := b s2 [Value.ref a, u] I2.kIn (by rw [List.append_nil]; exact ln)
  rw [List.append_nil] at bd
  have rm : Room (k + 1) X.A := hr.mono hk
  have run := F.run X.A.in1 X.stack s2 H2 ⟨[Value.ref a, u], []⟩ _ _ _ (WE W σ) rm.in1 I2.env0.in1 bd rv q
  refine PySem.W.sub_K hF I2.ok.mod.kin J at_ (fi f at_) fn (wpAny_call (codeAny_mono run fun o s3 z => ?_)) (hs _ _)
  match o, z with
  | .error err, z => exact passAt tk σ pins _ _ err s3 I2 z
  | .ok (.ret w), z => exact I2.after z
/-- len(o) by an own __len__ that raises nothing -/
def rLenO (C : Addr) (sp : Sp) (E : XK) : List V → Hp → VK → Prop := fun xs H Q => ∃ a dx fs, xs = [.ref a] ∧ H a = some (.ins C dx fs) ∧ sp [.ref a] H (fun v H' => ∃ n : Int, v = .int n ∧ 0 ≤ n ∧ n < 2 ^ 63 ∧ Q (.int n) H') E
theorem call_lenO (c : Met X.prog X.w X.K X.mg X.base CX0 k C "__len__" sp) (hr : Room j X.A) (hk : k + 1 ≤ j) : CallR X (.builtin "len") (rLenO C sp E0) := by
  intro pins s σ H xs us Q I r h
  obtain ⟨a, dx, fs, rfl, ea, q⟩ := h
  obtain rfl := Vals.ref1 r
  obtain ⟨f, fd, ps, F, ini, fn, kp, b⟩ := c.ex
  obtain ⟨mA, J, _⟩ := ins_get I.hok ea
  obtain ⟨od, J, _⟩ := J.look
  obtain ⟨m, hF⟩ := I.fr
  have rv : Vals [V.ref a] [Value.ref a] := .cons rfl .nil
  have ln : [Value.ref a].length = ps.length := rv.length.symm.trans (F.len _ _ _ _ q)
  have bd := b s [Value.ref a] I.kIn (by rw [List.append_nil]; exact ln)
  rw [List.append_nil] at bd
  have rm : Room (k + 1) X.A := hr.mono hk
  have run := F.run X.A.in1 X.stack s H ⟨[Value.ref a], []⟩ _ _ _ E0 rm.in1 I.env0.in1 bd rv q
  refine PySem.W.len_K hF I.ok.mod.kin J ini fn (wpAny_call (codeAny_mono run fun o s2 z => ?_))
  match o, z with
  | .error err, z => exact z.elim
  | .ok (.ret u), z =>
    obtain ⟨v, H2, J3, rv3, n, rfl, h0, h1, q3⟩ := I.after z
    obtain ⟨t, rfl⟩ := (show ∃ t, u = Value.int n t from rv3)
    exact ⟨⟨h0, h1⟩, .int n, H2, J3.tok _, ⟨_, rfl⟩, q3⟩
end
end Jg

/-! a == b of two dicts whose values are data without dicts: both answers -/
namespace Jg
open PySem PySem.Spec PyProof.Rows L2
/-- small enough to be compared -/
def Sh40 (d : PyData) : Prop := d.canLay0 = true ∧ d.depth ≤ 40
/-- the data of a dict's values -/
def DvK (K : PySem.W.Frag) (H : Hp) (ks : List (Key × V)) (da : List (Key × PyData)) : Prop := Paired (fun p q => p.1 = q.1 ∧ Dp K H p.2 q.2 ∧ Sh40 q.2) ks da
def look : List (Key × PyData) → Key → Option PyData
  | [], _ => none
  | p :: r, k => if p.1 = k then some p.2 else look r k
def eqvD (da db : List (Key × PyData)) : Bool := da.length == db.length && da.all fun p => match look db p.1 with | none => false | some e => PyData.eqv p.2 e
section
variable {K : PySem.W.Frag} {H : Hp}
theorem dv_look {ks : List (Key × V)} {da : List (Key × PyData)} (h : DvK K H ks da) (k : Key) : (valV ks k = none ∧ look da k = none) ∨ ∃ v d, valV ks k = some v ∧ look da k = some d ∧ Dp K H v d ∧ Sh40 d := by
  unfold DvK at h
  induction h with
  | nil => exact .inl ⟨rfl, rfl⟩
  | @cons p q ps qs r _ ih =>
    obtain ⟨e, hd, sh⟩ := r
    by_cases c : p.1 = k
    · refine .inr ⟨p.2, q.2, valV_pos c, ?_, hd, sh⟩
      show (if q.1 = k then some q.2 else look qs k) = _
      rw [if_pos (e ▸ c)]
    · have l : look (q :: qs) k = look qs k := by
        show (if q.1 = k then some q.2 else look qs k) = _
        rw [if_neg (e ▸ c)]
      rw [valV_neg c, l]
      exact ih
end
section
variable {X : Cx} {pins : List (Addr × Obj)} {σ : L2.St} {H : Hp} {s : Shared} {A : Around}
theorem hits_data (I : Inv X pins σ H s) (hu : A.units + 40 < cLine) {ls : List (Key × V)} {vb : List (Key × Value)} {db : List (Key × PyData)} (rb : KV ls vb) (hb : DvK X.K H ls db) : ∀ {ks : List (Key × V)} {va : List (Key × Value)} {da : List (Key × PyData)}, KV ks va → DvK X.K H ks da →
    PySem.W.KeqHitsP X.prog X.w A s vb va (da.all fun p => match look db p.1 with | none => false | some e => PyData.eqv p.2 e) := by
  intro ks va da ra ha
  unfold KV at ra
  unfold DvK at ha
  induction ra generalizing da with
  | nil => cases ha; exact .nil
  | @cons p q ps qs h t ih =>
    cases ha with
    | @cons _ d _ ds hd td =>
    obtain ⟨e1, r1⟩ := h
    obtain ⟨e2, dp, sh⟩ := hd
    obtain ⟨qk, qv⟩ := q
    have ek : p.1 = qk := e1
    rw [List.all_cons]
    have rv := rb.val p.1
    rcases dv_look hb p.1 with ⟨n1, n2⟩ | ⟨v, d2, n1, n2, dp2, sh2⟩
    · rw [← e2, n2]
      rw [n1] at rv
      have z : valueAt vb qk = none := by
        rw [← ek]
        cases c : valueAt vb p.1 with
        | none => rfl
        | some y => rw [c] at rv; exact absurd rv (by intro q; cases q)
      exact .miss z
    · rw [← e2, n2]
      rw [n1] at rv
      obtain ⟨y, hy, ry⟩ := rv.some_of
      rw [ek] at hy
      obtain ⟨as, R1⟩ := Dp.reads I d.2 p.2 qv dp r1
      obtain ⟨bs, R2⟩ := Dp.reads I d2 v y dp2 ry
      have eq : SeqAt.EqAt A s qv y (PyData.eqv d.2 d2) := SeqAt.eqAt_reads d.2 d2 A s qv y as bs R1 R2 sh.1 sh2.1 (Nat.lt_of_le_of_lt (Nat.add_le_add_left (Nat.le_trans (Nat.min_le_left _ _) sh.2) _) hu)
      exact .hit hy eq.eqP (ih td)
end
def rEqDD (K : PySem.W.Frag) : R2 := fun x y H Q => ∃ a b ks ls da db, x = .ref a ∧ y = .ref b ∧ H a = some (.dK ks) ∧ H b = some (.dK ls) ∧ DvK K H ks da ∧ DvK K H ls db ∧ Q (.bl (eqvD da db)) H
theorem op_eqDD {X : Cx} (hu : X.A.units + 64 < cLine) : OpR X (compareOp .Eq) (rEqDD X.K) := by
  intro pins s σ H x y v u Q I rx ry h
  obtain ⟨a, b, ks, ls, da, db, rfl, rfl, ha, hb, dva, dvb, q⟩ := h
  cases (show v = Value.ref a from rx)
  cases (show u = Value.ref b from ry)
  obtain ⟨_, ya, va, ra, doa⟩ := (show ObjOk X.prog X.w H s.heap a (.dK ks) from I.hok a _ ha)
  obtain ⟨_, yb, vb, rb, dob⟩ := (show ObjOk X.prog X.w H s.heap b (.dK ls) from I.hok b _ hb)
  refine PySem.W.rcP_dicts (knd := mixKind X.prog X.w) ya yb doa dob (by omega) (fun _ => hits_data I (A := X.A.in1) (by show X.A.units + 1 + 40 < cLine; omega) rb dvb ra dva) _ _ ?_
  have l1 : va.length = da.length := by rw [← Paired.length ra, Paired.length dva]
  have l2 : vb.length = db.length := by rw [← Paired.length rb, Paired.length dvb]
  rw [l1, l2]
  exact ⟨.bl _, H, I, rfl, q⟩
end Jg

/-! the one sorted list of some texts -/
namespace Jg
open PySem PySem.Spec PyProof.Rows
/-- x is behind y -/
def bef (x y : Str) : Bool := !ltCps y.cps.toList x.cps.toList
theorem bef_iff {x y : Str} : bef x y = true ↔ ¬ y.cps.toList < x.cps.toList := by
  unfold bef
  rw [ltCps_eq]
  simp
theorem bef_refl (x : Str) : bef x x = true := bef_iff.mpr (List.lt_irrefl _)
theorem bef_total (x y : Str) : bef x y = true ∨ bef y x = true := by
  rcases Decidable.em (y.cps.toList < x.cps.toList) with h | h
  · exact .inr (bef_iff.mpr fun q => List.lt_irrefl _ (List.lt_trans h q))
  · exact .inl (bef_iff.mpr h)
theorem bef_anti {x y : Str} (h1 : bef x y = true) (h2 : bef y x = true) : x = y := by
  have a := bef_iff.mp h1
  have b := bef_iff.mp h2
  have e : x.cps.toList = y.cps.toList := List.le_antisymm (List.not_lt.mp a) (List.not_lt.mp b)
  have c : x.cps = y.cps := Array.ext' e
  cases x; cases y; cases c; rfl
theorem bef_trans {x y z : Str} (h1 : bef x y = true) (h2 : bef y z = true) : bef x z = true := by
  have a := List.not_lt.mp (bef_iff.mp h1)
  have b := List.not_lt.mp (bef_iff.mp h2)
  exact bef_iff.mpr (List.not_lt.mpr (List.le_trans a b))
theorem rising_pw : ∀ (l : List Str) (p : Str), risingS p l = true → (p :: l).Pairwise fun x y => bef x y = true
  | [], p, _ => List.pairwise_singleton _ _
  | x :: r, p, h => by
    have h' : (bef p x && risingS x r) = true := h
    rw [Bool.and_eq_true] at h'
    have ih := rising_pw r x h'.2
    refine List.pairwise_cons.mpr ⟨fun y hy => ?_, ih⟩
    rcases List.mem_cons.mp hy with e | hy
    · rw [e]; exact h'.1
    · exact bef_trans h'.1 ((List.pairwise_cons.mp ih).1 y hy)
theorem sorted_pw {l : List Str} (h : sortedS l = true) : l.Pairwise fun x y => bef x y = true := by
  cases l with
  | nil => exact .nil
  | cons x r => exact rising_pw r x h
theorem pw_sorted {l : List Str} (h : l.Pairwise fun x y => bef x y = true) : sortedS l = true :=
  sortedS_of_pairwise l (h.imp fun {a b} q => by
    have q' : (!ltCps b.cps.toList a.cps.toList) = true := q
    simpa using q')
theorem pw_uniq : ∀ {l m : List Str}, l.Pairwise (fun x y => bef x y = true) → m.Pairwise (fun x y => bef x y = true) → l.Perm m → l = m
  | [], m, _, _, p => (List.nil_perm.mp p).symm
  | x :: r, [], _, _, p => absurd p (by simp)
  | x :: r, y :: t, h1, h2, p => by
    have e : x = y := by
      have hx : x ∈ y :: t := p.mem_iff.mp (List.mem_cons_self ..)
      have hy : y ∈ x :: r := p.mem_iff.mpr (List.mem_cons_self ..)
      rcases List.mem_cons.mp hx with e | hx
      · exact e
      · rcases List.mem_cons.mp hy with e | hy
        · exact e.symm
        · exact bef_anti ((List.pairwise_cons.mp h1).1 y hy) ((List.pairwise_cons.mp h2).1 x hx)
    subst e
    rw [pw_uniq (List.pairwise_cons.mp h1).2 (List.pairwise_cons.mp h2).2 (List.Perm.cons_inv p)]
def srtW (l : List Str) : List Str := l.mergeSort bef
theorem srtW_perm (l : List Str) : (srtW l).Perm l := List.mergeSort_perm l bef
theorem bef_total' (x y : Str) : (bef x y || bef y x) = true := by rw [Bool.or_eq_true]; exact bef_total x y
theorem srtW_sorted (l : List Str) : sortedS (srtW l) = true := by
  have h : (l.mergeSort bef).Pairwise fun x y => bef x y = true := by
    first
      | exact List.pairwise_mergeSort (le := bef) (fun _ _ _ h1 h2 => bef_trans h1 h2) bef_total' l
      | exact List.sorted_mergeSort (le := bef) (fun _ _ _ h1 h2 => bef_trans h1 h2) bef_total' l
  exact pw_sorted h
theorem srt_eq {l m : List Str} (s : sortedS l = true) (p : l.Perm m) : l = srtW m := pw_uniq (sorted_pw s) (sorted_pw (srtW_sorted m)) (p.trans (srtW_perm m).symm)
theorem srtW_congr {l m : List Str} (p : l.Perm m) : srtW l = srtW m := srt_eq (srtW_sorted l) ((srtW_perm l).trans p)
theorem srtW_len (l : List Str) : (srtW l).length = l.length := (srtW_perm l).length_eq
theorem srtW_mem {l : List Str} {x : Str} : x ∈ srtW l ↔ x ∈ l := (srtW_perm l).mem_iff
theorem srtW_nodup {l : List Str} : (srtW l).Nodup ↔ l.Nodup := (srtW_perm l).nodup_iff
end Jg

/-! lists of texts as data; in, == of them -/
namespace Jg
open PySem PySem.Spec PyProof.Rows L2
def okW (z : Str) : Prop := PyData.strOk z = true
theorem lay_strs : ∀ xs : List Str, (∀ z ∈ xs, okW z) → PyData.canLayAll0 (xs.map PyData.str) = true
  | [], _ => rfl
  | x :: xs, h => by
    show (PyData.canLay0 (.str x) && PyData.canLayAll0 (xs.map PyData.str)) = true
    rw [lay_strs xs fun z hz => h z (List.mem_cons_of_mem _ hz)]
    have e : PyData.canLay0 (.str x) = true := by
      have := h x (List.mem_cons_self ..)
      unfold okW at this
      simp [PyData.canLay0, this]
    rw [e]; rfl
theorem depth_strs : ∀ xs : List Str, PyData.depthAll (xs.map PyData.str) = 0
  | [] => rfl
  | x :: xs => by
    show max (PyData.depth (.str x)) (PyData.depthAll (xs.map PyData.str)) = 0
    rw [depth_strs xs]; rfl
theorem shaped_strs {xs : List Str} (h : ∀ z ∈ xs, okW z) : SeqAt.shaped (.list (xs.map PyData.str)) = true := by
  show (PyData.canLayAll0 (xs.map PyData.str) && decide (PyData.depthAll (xs.map PyData.str) + 1 ≤ 64)) = true
  rw [lay_strs xs h, depth_strs]; rfl
theorem eqv_str (x y : Str) : PyData.eqv (.str x) (.str y) = decide (x = y) := by
  by_cases c : x = y
  · subst c; simp [PyData.eqv]
  · simp [PyData.eqv, c]
theorem eqvAll_strs : ∀ xs ys : List Str, PyData.eqvAll (xs.map PyData.str) (ys.map PyData.str) = decide (xs = ys)
  | [], [] => rfl
  | [], y :: ys => rfl
  | x :: xs, [] => rfl
  | x :: xs, y :: ys => by
    have ih := eqvAll_strs xs ys
    show (PyData.eqv (.str x) (.str y) && PyData.eqvAll (xs.map PyData.str) (ys.map PyData.str)) = _
    rw [ih, eqv_str]
    by_cases c : x = y
    · subst c
      by_cases d : xs = ys
      · subst d; simp
      · simp [d]
    · simp [c]
theorem eqv_strs (xs ys : List Str) : PyData.eqv (.list (xs.map PyData.str)) (.list (ys.map PyData.str)) = decide (xs = ys) := by
  rw [PyData.eqv]; exact eqvAll_strs xs ys
theorem dpAll_strs {K : PySem.W.Frag} {H : Hp} : ∀ xs : List Str, DpAll K H (xs.map V.str) (xs.map PyData.str)
  | [] => .nil
  | x :: xs => .cons (.str x) (dpAll_strs xs)
theorem dp_strs {K : PySem.W.Frag} {H : Hp} {a : Addr} {xs : List Str} (h : SqL K H a (xs.map V.str)) : Dp K H (.ref a) (.list (xs.map PyData.str)) := .lst h (dpAll_strs xs)
theorem ask_eqS {K : PySem.W.Frag} {H : Hp} {a b : Addr} {xs ys : List Str} {Q : VK} (h1 : SqL K H a (xs.map V.str)) (h2 : SqL K H b (ys.map V.str)) (k1 : ∀ z ∈ xs, okW z) (k2 : ∀ z ∈ ys, okW z) (q : Q (.bl (decide (xs = ys))) H) : rEqD K (.ref a) (.ref b) H Q :=
  ⟨_, _, dp_strs h1, dp_strs h2, shaped_strs k1, shaped_strs k2, by rw [eqv_strs]; exact q⟩
theorem ask_neS {K : PySem.W.Frag} {H : Hp} {a b : Addr} {xs ys : List Str} {Q : VK} (h1 : SqL K H a (xs.map V.str)) (h2 : SqL K H b (ys.map V.str)) (k1 : ∀ z ∈ xs, okW z) (k2 : ∀ z ∈ ys, okW z) (q : Q (.bl (!decide (xs = ys))) H) : rNeD K (.ref a) (.ref b) H Q :=
  ⟨_, _, dp_strs h1, dp_strs h2, shaped_strs k1, shaped_strs k2, by rw [eqv_strs]; exact q⟩
/-- z in a list of texts -/
theorem inV_strs {m : Str} : ∀ {xs : List Str}, inV (.str m) (xs.map V.str) = decide (m ∈ xs)
  | [] => rfl
  | x :: xs => by
    have ih := inV_strs (m := m) (xs := xs)
    show (eqV (.str x) (.str m) || inV (.str m) (xs.map V.str)) = _
    rw [ih]
    have e : eqV (.str x) (.str m) = decide (x = m) := by
      by_cases c : x = m
      · subst c; simp [eqV]
      · simp [eqV, c]
    rw [e]
    by_cases c : x = m
    · subst c; simp
    · have c' : ¬ m = x := fun z => c z.symm
      simp [c, c']
theorem flat_strs : ∀ {xs : List Str}, (xs.map V.str).all flatV = true
  | [] => rfl
  | x :: xs => by
    show (flatV (.str x) && (xs.map V.str).all flatV) = true
    rw [flat_strs]; rfl
theorem ask_inS {K : PySem.W.Frag} {H : Hp} {a : Addr} {xs : List Str} {m : Str} {Q : VK} (h : SqL K H a (xs.map V.str)) (q : Q (.bl (decide (m ∈ xs))) H) : rIn K false (.str m) (.ref a) H Q :=
  ⟨a, _, rfl, .inl h, rfl, flat_strs, by
    show Q (.bl (inV (.str m) (xs.map V.str))) H
    rw [inV_strs]; exact q⟩
theorem ask_notInS {K : PySem.W.Frag} {H : Hp} {a : Addr} {xs : List Str} {m : Str} {Q : VK} (h : SqL K H a (xs.map V.str)) (q : Q (.bl (!decide (m ∈ xs))) H) : rIn K true (.str m) (.ref a) H Q :=
  ⟨a, _, rfl, .inl h, rfl, flat_strs, by
    show Q (.bl (!inV (.str m) (xs.map V.str))) H
    rw [inV_strs]; exact q⟩
theorem map_catS {K : PySem.W.Frag} {H : Hp} {a : Addr} {xs ys : List Str} (h : SqL K H a (xs.map V.str ++ ys.map V.str)) : SqL K H a ((xs ++ ys).map V.str) := by rw [List.map_append]; exact h
/-- plain texts may be laid -/
theorem okW_ascii {z : Str} (h : PySem.Txt.isascii z = true) : okW z := by
  unfold PySem.Txt.isascii at h
  unfold okW PyData.strOk
  rw [← Array.all_toList, List.all_eq_true] at h ⊢
  intro c hc
  have := of_decide_eq_true (h c hc)
  exact decide_eq_true (by omega)
/-! one sorted list within another -/
theorem sub_sorted : ∀ {m l : List Str}, m.Pairwise (fun x y => bef x y = true) → l.Pairwise (fun x y => bef x y = true) → l.Nodup → (∀ x ∈ l, x ∈ m) → l.Sublist m
  | [], l, _, _, _, h => by
    cases l with
    | nil => exact .slnil
    | cons x r => exact absurd (h x (List.mem_cons_self ..)) (by simp)
  | y :: t, [], _, _, _, _ => List.nil_sublist _
  | y :: t, x :: r, hm, hl, nd, h => by
    obtain ⟨hm1, hm2⟩ := List.pairwise_cons.mp hm
    obtain ⟨hl1, hl2⟩ := List.pairwise_cons.mp hl
    obtain ⟨nx, nr⟩ := List.nodup_cons.mp nd
    by_cases e : x = y
    · subst e
      refine (sub_sorted hm2 hl2 nr fun z hz => ?_).cons_cons x
      rcases List.mem_cons.mp (h z (List.mem_cons_of_mem _ hz)) with e | k
      · rw [e] at hz; exact absurd hz nx
      · exact k
    · refine List.Sublist.cons y (sub_sorted hm2 hl nd fun z hz => ?_)
      rcases List.mem_cons.mp (h z hz) with e2 | k
      · -- z = y would stand ahead of x
        subst e2
        rcases List.mem_cons.mp hz with e3 | hz'
        · exact absurd e3.symm e
        · have hx : x ∈ t := (List.mem_cons.mp (h x (List.mem_cons_self ..))).resolve_left e
          exact absurd (bef_anti (hl1 z hz') (hm1 x hx)) e
      · exact k
theorem eq_sorted {l m : List Str} (hm : sortedS m = true) (hl : sortedS l = true) (nd : l.Nodup) (h : ∀ x ∈ l, x ∈ m) (len : l.length = m.length) : l = m :=
  (sub_sorted (sorted_pw hm) (sorted_pw hl) nd h).eq_of_length len
end Jg

/-! texts: list(text), text * number, text.replace of written texts behind another written text -/
namespace Jg
open PySem PySem.Spec PyProof.Rows L2
section
variable {X : Cx}
/-- list(text): its signs -/
theorem call_listS (hc : X.calm = true) : CallR X (.type "list") (fun xs H Q => ∃ z : Str, xs = [.str z] ∧ z.length ≤ sizeLine ∧ ∀ p, H p = none → Q (.ref p) (upd H p (.lst (z.cps.toList.map fun c => V.str ⟨#[c]⟩)))) := by
  intro pins s σ H xs us Q I r h
  obtain ⟨z, rfl, hz, q⟩ := h
  obtain ⟨u, rfl, rx⟩ := vals1 r
  obtain ⟨t, rfl⟩ := rx
  refine PySem.call_list_str (hn := hz) (I.ok.hd hc) z t fun h' tk acc c' hk e hi => ?_
  refine ⟨.ref s.heap.objs.size, upd H s.heap.objs.size (.lst (z.cps.toList.map fun c => V.str ⟨#[c]⟩)), I.laid hk (Nat.le_refl _) ⟨by rw [List.length_map, Array.length_toList]; exact hz, acc.toList, c', ?_, by rw [Array.toArray_toList]; exact e⟩, rfl, q _ (I.hok.fresh (Nat.le_refl _))⟩
  refine vals_of_idx _ _ (by rw [List.length_map, Array.length_toList, Array.length_toList]; exact hi.1) fun j u hj => ?_
  obtain ⟨c, t', hc, rfl⟩ := hi.2 j u (by rw [← Array.getElem?_toList]; exact hj)
  exact ⟨.str ⟨#[c]⟩, by rw [List.getElem?_map, Array.getElem?_toList, hc]; rfl, ⟨_, rfl⟩⟩
/-- text * number -/
def timesT (z : Str) (n : Int) : Str := ⟨(List.replicate n.toNat z.cps).foldl (· ++ ·) #[]⟩
theorem op_mul_str : OpR X (binaryOp .Mult) (fun x y H Q => ∃ (z : Str) (n : Int), x = .str z ∧ y = .int n ∧ 2 ≤ n ∧ n ≤ 100000 ∧ z.length = 1 ∧ Q (.str (timesT z n)) H) := by
  intro pins s σ H x y v u Q I rx ry h
  obtain ⟨z, n, rfl, rfl, h1, h2, hz, q⟩ := h
  obtain ⟨t, rfl⟩ := rx
  obtain ⟨t', rfl⟩ := ry
  have e1 : decide (n < -(2 ^ 63 : Int)) = false := decide_eq_false (by omega)
  have e2 : decide (n ≥ 2 ^ 63) = false := decide_eq_false (by omega)
  have e3 : (n == 1 || z.length == 0) = false := by
    rw [hz, Bool.or_eq_false_iff]
    exact ⟨beq_eq_false_iff_ne.mpr (by omega), rfl⟩
  have fl : ∀ (k : Nat) (a : Array Nat), ((List.replicate k z.cps).foldl (· ++ ·) a).size = a.size + k := by
    intro k
    induction k with
    | zero => intro a; rfl
    | succ k ih =>
      intro a
      rw [List.replicate_succ, List.foldl_cons, ih, Array.size_append]
      have : z.cps.size = 1 := hz
      omega
  have sz : (timesT z n).length ≤ sizeLine := by
    show ((List.replicate n.toNat z.cps).foldl (· ++ ·) #[]).size ≤ sizeLine
    rw [fl, sizeLine_eq]
    show 0 + n.toNat ≤ _
    omega
  refine PySem.P.mul_str (by rw [e1, e2]; rfl) (fun _ _ => ?_) (fun _ _ => ?_) ?_
  · rw [hz]
    have : (2 ^ 63 - 1) / n ≥ 1 := by
      have : (1 : Int) * n ≤ 2 ^ 63 - 1 := by omega
      exact (Int.le_ediv_iff_mul_le (by omega)).mpr this
    omega
  · unfold PySem.Builtin.Str.tooLong
    rw [hz, sizeLine_eq]
    exact decide_eq_false (by omega)
  · rw [if_neg (by omega), if_neg (by rw [e3]; decide)]
    exact ⟨sz, ⟨.str (timesT z n), H, I.tok _, ⟨_, rfl⟩, q⟩⟩
/-! ### a written text was read: a token is out -/
def PE1 (X : Cx) (e : Expr) (t : TE) : Prop :=
  ∀ (pins : List (Addr × Obj)) (s : Shared) (σ : L2.St) (H : Hp) (Q : VK), Inv X pins σ H s → t σ H Q → wpAny (model X.prog X.w) X.A (eval e X.env) (fun u s' => 1 ≤ s'.toks ∧ EP X pins σ Q u s') X.xe s
theorem pe1_op {op : Operator} {r : R2} {a : Expr} {c : Str} {j : Nat} {cp pos : Pos} {ta : TE} (ho : OpR X (binaryOp op) r) (ha : PE X a ta) : PE1 X (.BinOp a op (.Constant (.str c) j cp) pos) (tOp r ta (tC (.str c))) := by
  intro pins s σ H Q I h
  refine wpAny_BinOp (thn (ha.run pins s σ H _ I h) fun v s1 ⟨x, H1, I1, r1, q1⟩ => Calls.Constant_str ?_)
  refine wpAny_mono (PySem.wpAny_toks_of (n := 1) (by show 1 ≤ s1.toks + 1; omega) (ho pins { s1 with toks := s1.toks + 1 } σ H1 x (.str c) v (.str c s1.toks) Q (I1.tok _) r1 ⟨_, rfl⟩ q1)) (fun _ _ z => z) fun _ _ z => z.2
theorem pet_of {e : Expr} {t : TE} (h : PE X e t) : PET X e t := fun pins s σ H Q _ I q => h.run pins s σ H Q I q
theorem pa_tok {e : Expr} {es : List Expr} {te : TE} {ta : TA} (ha : PE1 X e te) (hr : PAT X es ta) (hs : starEach (e :: es) X.env = (false, eval e X.env) :: starEach es X.env := by rfl) : PA X (e :: es) (tCons te ta) := by
  refine ⟨fun pos pins s σ H Q I h => ?_⟩
  rw [hs]
  show wpAny _ _ (spliced ((false, eval e X.env) :: backTo pos (starEach es X.env))) _ _ s
  refine Calls.spliced_cons (thn (ha pins s σ H _ I h) fun u s1 ⟨hk, x, H1, I1, r1, q1⟩ => ?_)
  exact thn (hr pos pins s1 σ H1 _ hk I1 q1) fun us s2 ⟨xs, H2, I2, r2, q2⟩ => ⟨x :: xs, H2, I2, .cons r1 r2, q2⟩
def tRepl (y z : Str) (to : TE) : TE := fun σ H Q => to σ H fun x H1 => ∃ a : Str, x = .str a ∧ a.length + (a.length + 1) * z.length ≤ 16777216 ∧ Q (.str (Txt.replace a y z)) H1
theorem pet_repl {o : Expr} {y z : Str} {j0 j1 : Nat} {c0 c1 apos pos : Pos} {to : TE} (ho : PE X o to) (hyz : (y == z) = false)
    (hst : starEach [.Constant (.str y) j0 c0, .Constant (.str z) j1 c1] X.env = [(false, eval (.Constant (.str y) j0 c0) X.env), (false, eval (.Constant (.str z) j1 c1) X.env)] := by rfl)
    (hbase : attributeBase o "replace" X.env (eval o X.env) = eval o X.env := by rfl) (hline : (apos.endLine == pos.line) = true := by rfl) :
    PET X (.Call (.Attribute o "replace" apos) [.Constant (.str y) j0 c0, .Constant (.str z) j1 c1] [] pos) (tRepl y z to) := by
  intro pins s σ H Q h0 I h
  refine PySem.Call_method2 hbase hst hline (wpAny_mono (PySem.wpAny_toks_of (n := 1) h0 (ho.run pins s σ H _ I h)) (fun v s1 q => ?_) fun _ _ x => x.2)
  obtain ⟨hk, x, H1, I1, r1, a, rfl, hb, q⟩ := q
  obtain ⟨tx, rfl⟩ := r1
  refine ⟨"str", _, F.plainAttrs_str, F.slot_str_replace, F.type_str_replace, typeIs_str _ _ _, (fun _ e => nomatch e), Calls.callWith_builtin rfl (Calls.evalArgs_plain (Calls.spliced_cons ?_))⟩
  refine Calls.Constant_str (Calls.spliced_cons (Calls.Constant_str (Calls.spliced_nil ?_)))
  exact PySem.SC.replace (t := tx) (show s1.toks ≠ 0 by omega) (show s1.toks + 1 ≠ 0 by omega) (show s1.toks ≠ s1.toks + 1 by omega) hyz hb fun t' k => ⟨.str (Txt.replace a y z), H1, I1.tok k, ⟨t', rfl⟩, q⟩
end
end Jg

/-! sorted(a list of data) -/
namespace Jg
open PySem PySem.Spec PyProof.Rows L2
/-- the sorted values -/
def srtV (bs : List (V × PyData)) : List V := (bs.mergeSort (PySem.W.dataLe false Prod.snd)).map Prod.fst
def rSortD (K : PySem.W.Frag) : List V → Hp → VK → Prop := fun vs H Q => ∃ (a : Addr) (bs : List (V × PyData)), vs = [.ref a] ∧ SqL K H a (bs.map Prod.fst) ∧ (∀ b ∈ bs, Dp K H b.1 b.2 ∧ b.2.depth ≤ 40) ∧ PySem.W.AllAlike (bs.map Prod.snd) ∧ PySem.W.Sortable (bs.map Prod.snd) ∧
  ∀ p, H p = none → Q (.ref p) (upd H p (.lst (srtV bs)))
theorem each_vals : ∀ {us : List Value} {bs : List (V × PyData)}, PySem.W.EachIs (fun v b => RelV b.1 v) us bs → Vals (bs.map Prod.fst) us
  | _, _, .nil => .nil
  | _, _, .cons r t => .cons r (each_vals t)
section
variable {X : Cx} {pins : List (Addr × Obj)} {σ : L2.St} {H : Hp} {s : Shared}
theorem vals_each (I : Inv X pins σ H s) : ∀ {us : List Value} {bs : List (V × PyData)}, Vals (bs.map Prod.fst) us → (∀ b ∈ bs, Dp X.K H b.1 b.2 ∧ b.2.depth ≤ 40) → PySem.W.EachIs (fun v b => RelV b.1 v) us bs ∧ PySem.W.EachIs (fun v b => ∃ as, Reads s.heap v b.2 as) us bs
  | us, [], r, _ => by cases r; exact ⟨.nil, .nil⟩
  | us, b :: bs, r, h => by
    have r' : Vals (b.1 :: bs.map Prod.fst) us := r
    cases r' with
    | cons r1 r2 =>
      obtain ⟨e1, e2⟩ := vals_each I r2 fun q hq => h q (List.mem_cons_of_mem _ hq)
      exact ⟨.cons r1 e1, .cons (Dp.reads I b.2 b.1 _ (h b (List.mem_cons_self ..)).1 r1) e2⟩
end
theorem cr_sortD {X : Cx} (hu : X.A.units + 64 < cLine) : CallR X (.builtin "sorted") (rSortD X.K) := by
  intro pins s σ H vs us Q I r h
  obtain ⟨a, bs, rfl, sq, dp, al, so, q⟩ := h
  obtain ⟨its, rv, hl, len⟩ := I.list sq
  rw [Vals.ref1 r]
  obtain ⟨e1, e2⟩ := vals_each I rv dp
  rw [List.length_map] at len
  refine PySem.W.sorted_data (enc := Prod.snd) (R := fun v b => RelV b.1 v) hl.isList e1 e2 al so len (fun b hb => by have := (dp b hb).2; omega) fun out lo eo => ?_
  obtain ⟨ep, he'⟩ := PyProof.Rows.sortedAll_at s.heap its out.toArray
  have hlen : (srtV bs).length ≤ sizeLine := by
    unfold srtV
    rw [List.length_map, List.length_mergeSort]; exact len
  exact ⟨.ref _, upd H (s.heap.objs.size + 1) (.lst (srtV bs)), I.laid (t' := s.toks) (fun _ _ => PyProof.Rows.sortedAll_old) (Nat.le_succ _) ⟨hlen, out, ep, each_vals eo, by simpa using he'⟩, rfl, q _ (I.hok.fresh (Nat.le_succ _))⟩
/-! ### rows by their first text -/
theorem dataLt_first {a b : Str} {xs ys : List PyData} (h : a ≠ b) : PySem.W.dataLt (.tuple (.str a :: xs)) (.tuple (.str b :: ys)) = decide (a.cps.toList < b.cps.toList) := by
  rw [PySem.W.dataLt_tuple, PySem.W.dataLt_all_no (x := .str a) (y := .str b) (by simp [PySem.W.alike]) (by rw [eqv_str]; exact decide_eq_false h), PySem.W.dataLt_str]
theorem bef_dec (x y : Str) : bef x y = !decide (y.cps.toList < x.cps.toList) := by unfold bef; rw [ltCps_eq]
theorem nd_inj {α β : Type} {z : α → β} : ∀ {rows : List α} {a b : α}, (rows.map z).Nodup → a ∈ rows → b ∈ rows → z a = z b → a = b
  | p :: t, a, b, nd, ha, hb, e => by
    rw [List.map_cons, List.nodup_cons] at nd
    rcases List.mem_cons.mp ha with ea | ha
    · rcases List.mem_cons.mp hb with eb | hb
      · rw [ea, eb]
      · exact absurd (List.mem_map.mpr ⟨b, hb, by rw [← e, ea]⟩) nd.1
    · rcases List.mem_cons.mp hb with eb | hb
      · exact absurd (List.mem_map.mpr ⟨a, ha, by rw [e, eb]⟩) nd.1
      · exact nd_inj nd.2 ha hb e
/-- some rows, each with a text of its own, sorted as data -/
theorem srtV_rows {α : Type} {rows : List α} {z : α → Str} {v : α → V} {rest : α → List PyData} (nd : (rows.map z).Nodup) :
    srtV (rows.map fun r => (v r, PyData.tuple (.str (z r) :: rest r))) = (rows.mergeSort fun r q => bef (z r) (z q)).map v ∧ (rows.mergeSort fun r q => bef (z r) (z q)).map z = srtW (rows.map z) := by
  have key : ∀ a ∈ rows, ∀ b ∈ rows, bef (z a) (z b) = PySem.W.dataLe false (Prod.snd : V × PyData → PyData) (v a, PyData.tuple (.str (z a) :: rest a)) (v b, PyData.tuple (.str (z b) :: rest b)) := by
    intro a ha b hb
    by_cases e : z a = z b
    · have eab : a = b := nd_inj nd ha hb e
      subst eab
      rw [bef_refl]
      have t := (PySem.W.sortLe_total (PyProof.Rows.listOrd PyProof.Rows.itemOrd) false fun b : V × PyData => PySem.W.keyToks b.2).refl (v a, PyData.tuple (.str (z a) :: rest a))
      exact t.symm
    · show _ = !PySem.W.dataLt (.tuple (.str (z b) :: rest b)) (.tuple (.str (z a) :: rest a))
      rw [dataLt_first (fun h => e h.symm), bef_dec]
  constructor
  · unfold srtV
    rw [← PySem.W.sort_maps (fun r => (v r, PyData.tuple (.str (z r) :: rest r))) key, List.map_map]
    rfl
  · exact PySem.W.sort_maps z fun a _ b _ => rfl
end Jg

/-! sorted(a list of tuples), each with a first text of its own, the rest whatever it is -/
namespace Jg
open PySem PySem.Spec PyProof.Rows L2 PySem.W
abbrev FRow := Str × List PyData
def FRow.d (r : FRow) : PyData := .tuple (.str r.1 :: r.2)
noncomputable def fstKind (h : Heap) (ds : List FRow) : PyProof.Rows.KeyKind where
  toKeyOrd := PyProof.Rows.strKind.toKeyOrd
  keyOf v := open Classical in if q : ∃ r : FRow, r ∈ ds ∧ ∃ as, Reads h v r.d as then some q.choose.1.cps.toList else none
  dflt := []
theorem reads_str {h : Heap} {v : Value} {x : Str} {as : List Addr} (a : Reads h v (.str x) as) : ∃ t, v = .str x t := by
  cases a; exact ⟨_, rfl⟩
theorem first_unique {h : Heap} {v : Value} {r q : FRow} {as bs : List Addr} (a : Reads h v r.d as) (b : Reads h v q.d bs) : r.1 = q.1 := by
  unfold FRow.d at a b
  cases a with
  | tuple h1 h2 h3 h4 =>
    cases b with
    | tuple k1 k2 k3 k4 =>
      rw [h1] at k1; cases k1
      rw [h3] at k3; cases k3
      generalize Array.toList _ = l at h4 k4
      cases h4 with
      | cons x1 _ =>
        cases k4 with
        | cons y1 _ =>
          obtain ⟨t, e1⟩ := reads_str x1
          obtain ⟨t', e2⟩ := reads_str y1
          rw [e1] at e2
          injection e2
theorem fst_some {h : Heap} {ds : List FRow} {v : Value} {r : FRow} {as : List Addr} (hd : r ∈ ds) (e : Reads h v r.d as) : (fstKind h ds).keyOf v = some r.1.cps.toList := by
  have q : ∃ r : FRow, r ∈ ds ∧ ∃ as, Reads h v r.d as := ⟨r, hd, as, e⟩
  have e1 : (fstKind h ds).keyOf v = some q.choose.1.cps.toList := by
    show (open Classical in if q : ∃ r : FRow, r ∈ ds ∧ ∃ as, Reads h v r.d as then some q.choose.1.cps.toList else none) = _
    rw [dif_pos q]
  obtain ⟨_, as', h2⟩ := q.choose_spec
  rw [e1, first_unique h2 e]
theorem fst_inv {h : Heap} {ds : List FRow} {v : Value} {k : List Nat} (e : (fstKind h ds).keyOf v = some k) : ∃ r : FRow, ∃ as, r ∈ ds ∧ Reads h v r.d as ∧ k = r.1.cps.toList := by
  by_cases q : ∃ r : FRow, r ∈ ds ∧ ∃ as, Reads h v r.d as
  · have e1 : (fstKind h ds).keyOf v = some q.choose.1.cps.toList := by
      show (open Classical in if q : ∃ r : FRow, r ∈ ds ∧ ∃ as, Reads h v r.d as then some q.choose.1.cps.toList else none) = _
      rw [dif_pos q]
    obtain ⟨h1, as', h2⟩ := q.choose_spec
    rw [e1] at e
    exact ⟨_, as', h1, h2, (Option.some.inj e).symm⟩
  · have e1 : (fstKind h ds).keyOf v = none := by
      show (open Classical in if q : ∃ r : FRow, r ∈ ds ∧ ∃ as, Reads h v r.d as then some q.choose.1.cps.toList else none) = _
      rw [dif_neg q]
      rfl
    rw [e1] at e
    cases e
section
variable {prog : Program} {w : World} {A : Around} {s : Shared}
theorem sortsAt_first {vs : List Value} {ds : List FRow} (e : EachIs (fun v r => ∃ as, Reads s.heap v r.d as) vs ds) (nd : (ds.map (·.1)).Nodup) (al : ∀ r ∈ ds, alikeAll r.2 r.2 = true) (hu : ∀ r ∈ ds, A.units + r.d.depth < cLine) : SortsAt prog w A s (fstKind s.heap ds) vs := by
  refine ⟨fun v hv => ?_, tuples' (Value.type "str" != Value.type "tuple"), ?_, fun h2 E Q hq => ?_⟩
  · obtain ⟨d, hd, as, r⟩ := e.left v hv
    exact ⟨_, fst_some hd r⟩
  · intro E x y a b Q ha hb hq
    obtain ⟨r, as, hr, ra, rfl⟩ := fst_inv ha
    obtain ⟨q, bs, hq', rb, rfl⟩ := fst_inv hb
    have room := hu r hr
    by_cases c : r.1 = q.1
    · have eq : r = q := nd_inj nd hr hq' c
      subst eq
      have hq0 : Q false s := by
        have z : (fstKind s.heap ds).blt r.1.cps.toList r.1.cps.toList = false := (fstKind s.heap ds).irrefl _
        rw [z] at hq; exact hq
      have aa : alikeAll (.str r.1 :: r.2) (.str r.1 :: r.2) = true := by
        rw [alikeAll, al r hr]; simp [alike]
      have ra' := ra
      have rb' := rb
      unfold FRow.d at ra rb
      cases ra with
      | @tuple l o xs n _ _ h1 h2 h3 h4 =>
        cases rb with
        | @tuple l' o' xs' n' _ _ k1 k2 k3 k4 =>
          have n1 : xs.size = (PyData.str r.1 :: r.2).length := by simpa using SeqAt.ReadsAll.length _ _ _ h4
          have n2 : xs'.size = (PyData.str r.1 :: r.2).length := by simpa using SeqAt.ReadsAll.length _ _ _ k4
          refine kat_lt h1 h3 k1 k3 (katLex_alike (.str r.1 :: r.2) (.str r.1 :: r.2) 0 _ _ _ _ h4 k4 aa ?_ (fun _ _ x t u ex => ?_) (by rw [n1, n2]) ?_)
          · have z : (FRow.d r).depth = PyData.depthAll (.str r.1 :: r.2) + 1 := by unfold FRow.d; rw [PyData.depth]
            rw [Nat.min_self]; omega
          · obtain ⟨rfl, rfl⟩ := List.cons.inj ex
            intro z; cases z
          · rw [lex_irrefl]; exact hq0
    · unfold FRow.d at ra rb
      cases ra with
      | @tuple l o xs n _ _ h1 h2 h3 h4 =>
        cases rb with
        | @tuple l' o' xs' n' _ _ k1 k2 k3 k4 =>
          refine kat_lt h1 h3 k1 k3 ?_
          generalize xs.toList = la at h4
          generalize xs'.toList = lb at k4
          cases h4 with
          | cons x1 _ =>
            cases k4 with
            | cons y1 _ =>
              rw [List.zip_cons_cons]
              refine kat_cons (eqAt_alike (.str r.1) (.str q.1) A s _ _ _ _ x1 y1 (by simp [alike]) ?_ prog w _ _ ?_)
              · have z : (PyData.str r.1).depth = 0 := by simp [PyData.depth]
                have z2 : A.units + (FRow.d r).depth < cLine := room
                rw [z, Nat.zero_min]
                omega
              · rw [eqv_str, decide_eq_false c]
                refine kat_no ?_
                cases x1; cases y1
                exact oneLt_any_str hq
  · obtain ⟨fs, t1, t2, t3⟩ := each_katTups (ds := ds.map FRow.d) (each_map FRow.d e) (fun d hd => by
      obtain ⟨r, _, rfl⟩ := List.mem_map.mp hd
      exact ⟨_, _, rfl⟩)
    refine kat_kind (T := .type "str") t1 (by omega) (fun f hf => ?_) (beq_self_eq_true _) hq
    obtain ⟨x, r, as, m1, m2⟩ := t3 f hf
    obtain ⟨r', _, e'⟩ := List.mem_map.mp m1
    unfold FRow.d at e'
    injection e' with e'
    obtain ⟨rfl, rfl⟩ := List.cons.inj e'
    exact looks_reads m2
end
/-- the sorted values -/
def rSortF (K : PySem.W.Frag) : List V → Hp → VK → Prop := fun vs H Q => ∃ (a : Addr) (bs : List (V × FRow)), vs = [.ref a] ∧ SqL K H a (bs.map Prod.fst) ∧ (∀ b ∈ bs, Dp K H b.1 b.2.d ∧ b.2.d.depth ≤ 40 ∧ alikeAll b.2.2 b.2.2 = true) ∧ (bs.map (·.2.1)).Nodup ∧
  ∀ p, H p = none → Q (.ref p) (upd H p (.lst ((bs.mergeSort fun a b => bef a.2.1 b.2.1).map Prod.fst)))
section
variable {X : Cx} {pins : List (Addr × Obj)} {σ : L2.St} {H : Hp} {s : Shared}
theorem vals_eachF (I : Inv X pins σ H s) : ∀ {us : List Value} {bs : List (V × FRow)}, Vals (bs.map Prod.fst) us → (∀ b ∈ bs, Dp X.K H b.1 b.2.d) → PySem.W.EachIs (fun v b => RelV b.1 v) us bs ∧ PySem.W.EachIs (fun v b => ∃ as, Reads s.heap v b.2.d as) us bs
  | us, [], r, _ => by cases r; exact ⟨.nil, .nil⟩
  | us, b :: bs, r, h => by
    have r' : Vals (b.1 :: bs.map Prod.fst) us := r
    cases r' with
    | cons r1 r2 =>
      obtain ⟨e1, e2⟩ := vals_eachF I r2 fun q hq => h q (List.mem_cons_of_mem _ hq)
      exact ⟨.cons r1 e1, .cons (Dp.reads I b.2.d b.1 _ (h b (List.mem_cons_self ..)) r1) e2⟩
end
theorem each_to {α β γ : Type} {R : α → γ → Prop} (f : β → γ) : ∀ {as : List α} {bs : List β}, EachIs (fun a b => R a (f b)) as bs → EachIs R as (bs.map f)
  | _, _, .nil => .nil
  | _, _, .cons h t => .cons h (each_to f t)
theorem each_valsF : ∀ {us : List Value} {bs : List (V × FRow)}, PySem.W.EachIs (fun v b => RelV b.1 v) us bs → Vals (bs.map Prod.fst) us
  | _, _, .nil => .nil
  | _, _, .cons r t => .cons r (each_valsF t)
theorem cr_sortF {X : Cx} (hu : X.A.units + 64 < cLine) : CallR X (.builtin "sorted") (rSortF X.K) := by
  intro pins s σ H vs us Q I r h
  obtain ⟨a, bs, rfl, sq, dp, nd, q⟩ := h
  obtain ⟨its, rv, hl, len⟩ := I.list sq
  rw [Vals.ref1 r]
  obtain ⟨e1, e2⟩ := vals_eachF I rv fun b hb => (dp b hb).1
  rw [List.length_map] at len
  have le : its.length = bs.length := e1.length
  have er : EachIs (fun v (b : V × FRow) => ∃ as, Reads (sortingHeap (copyHeap s.heap its) (s.heap.objs.size + 1) its) v b.2.d as) its bs := e2.mono fun _ _ ⟨as, r⟩ => ⟨as, PyProof.Rows.Reads.keeps (fun _ _ => sorting_copy_old) r⟩
  have nd' : ((bs.map Prod.snd).map (·.1)).Nodup := by rw [List.map_map]; exact nd
  have er' := each_to (R := fun v (r : FRow) => ∃ as, Reads (sortingHeap (copyHeap s.heap its) (s.heap.objs.size + 1) its) v r.d as) (fun b : V × FRow => b.2) er
  have S : SortsAt X.prog X.w X.A.in1.in1 { s with heap := sortingHeap (copyHeap s.heap its) (s.heap.objs.size + 1) its } (fstKind (sortingHeap (copyHeap s.heap its) (s.heap.objs.size + 1) its) (bs.map Prod.snd)) its := by
    refine sortsAt_first (s := { s with heap := sortingHeap (copyHeap s.heap its) (s.heap.objs.size + 1) its }) er' nd' (fun r hr => ?_) (fun r hr => ?_)
    · obtain ⟨b, hb, rfl⟩ := List.mem_map.mp hr
      exact (dp b hb).2.2
    · obtain ⟨b, hb, rfl⟩ := List.mem_map.mp hr
      have := (dp b hb).2.1
      show X.A.units + 1 + 1 + _ < _
      omega
  refine sorted_vals hl.isList S (by omega) ?_
  have eo : EachIs (fun v (b : V × FRow) => RelV b.1 v) (sortVals (fstKind (sortingHeap (copyHeap s.heap its) (s.heap.objs.size + 1) its) (bs.map Prod.snd)) false its its) (bs.mergeSort (sortLe PyProof.Rows.strKind.toKeyOrd false fun b : V × FRow => b.2.1.cps.toList)) := by
    refine sortVals_each (κ := fstKind (sortingHeap (copyHeap s.heap its) (s.heap.objs.size + 1) its) (bs.map Prod.snd)) (fun b : V × FRow => b.2.1.cps.toList) e1 ?_
    refine (each_mem er).mono fun v b hb => ?_
    obtain ⟨⟨as, rr⟩, mb⟩ := hb
    exact fst_some (List.mem_map_of_mem mb) rr
  have ef : (sortLe PyProof.Rows.strKind.toKeyOrd false fun b : V × FRow => b.2.1.cps.toList) = fun a b => bef a.2.1 b.2.1 := by
    funext a b
    show (!decide (b.2.1.cps.toList < a.2.1.cps.toList)) = _
    rw [bef_dec]
  rw [ef] at eo
  generalize sortVals _ false its its = out at *
  obtain ⟨ep, he'⟩ := PyProof.Rows.sortedAll_at s.heap its out.toArray
  have hlen : ((bs.mergeSort fun a b => bef a.2.1 b.2.1).map Prod.fst).length ≤ sizeLine := by
    rw [List.length_map, List.length_mergeSort]; exact len
  exact ⟨.ref _, upd H (s.heap.objs.size + 1) (.lst ((bs.mergeSort fun a b => bef a.2.1 b.2.1).map Prod.fst)), I.laid (t' := s.toks) (fun _ _ => PyProof.Rows.sortedAll_old) (Nat.le_succ _) ⟨hlen, out, ep, each_valsF eo, by simpa using he'⟩, rfl, q _ (I.hok.fresh (Nat.le_succ _))⟩
end Jg

/-! methods with keyword-only parameters, that may raise -/
namespace Jg
open PySem PySem.Spec PyProof.Rows L2
/-- a method with keyword-only parameters, as the top leaves it -/
structure MthK (K : PySem.W.Frag) (C : Addr) (m : Str) (qual : Str) (st : Stmt) (kws : List (Str × V)) : Prop where
  ex : ∃ f fd, FunD K m qual (defArgs st) (defBody st) (defScope st) [] kws f fd ∧ PySem.W.findIn K (.ref C) m = some (some (.ref f)) ∧ PySem.W.isFn K (.ref f) = true
theorem MthK.of {K : PySem.W.Frag} {C : Addr} {m qual : Str} {st : Stmt} {f : Addr} {oc : Value} {od an : Option Addr} {osl : Array (Option Value)} {kV doc pm cdv ct : Value} {kws : List (Str × V)}
    (a : PySem.W.findIn K (.ref C) m = some (some (.ref f))) (i : PySem.W.isFn K (.ref f) = true) (l : K.lookup f = some ⟨oc, od, .func (PySem.W.fnOf m qual (defArgs st) (defBody st) (defScope st) .none kV doc pm an cdv ct), osl⟩)
    (c : PySem.W.codeIn K cdv qual = true) (k : PySem.W.keepIn K (.ref f) = true) (kw : KwdV K kV kws) : MthK K C m qual st kws := ⟨f, _, ⟨⟨oc, od, .none, kV, doc, pm, an, cdv, ct, osl, rfl, l, c, .inl ⟨rfl, rfl⟩, kw⟩, k⟩, a, i⟩
structure MetW (P : Program) (w : World) (K : PySem.W.Frag) (mg : Str → Option Value) (base : Heap) (CX : CXT) (k : Nat) (C : Addr) (m : Str) (n : Nat) (ks : List Str) (gV : List V → List V → List V) (sp : Sp) : Prop where
  ex : ∃ f fd ps g, FnOk P w K mg base CX k f fd ps sp ∧ PySem.W.findIn K (.ref C) m = some (some (.ref f)) ∧ PySem.W.isFn K (.ref f) = true ∧ PySem.W.keepIn K (.ref f) = true ∧ KBn K fd ps n ks g gV
def tMethK (C : Addr) (m : Str) (n l : Nat) (sp : Sp) (gV : List V → List V → List V) (E : L2.St → XK) (ta : TE) (t tk : TA) : TE := fun σ H Q => ta σ H fun x H1 => ∃ a dx fs, x = .ref a ∧ H1 a = some (.ins C dx fs) ∧ fs.lookup m = none ∧
  t σ H1 fun vs H2 => tk σ H2 fun zs H3 => vs.length + 1 = n ∧ zs.length = l ∧ sp (gV (.ref a :: vs) zs) H3 Q (E σ)
section
variable {X : Cx} {k j n : Nat} {C : Addr} {x m : Str} {ks : List Str} {gV : List V → List V → List V} {sp : Sp} {W : WX} {p pos apos : Pos} {e o : Expr} {es : List Expr} {kws : List Keyword} {ta : TE} {t tk : TA}
/-- o.m(e, .., k = v, ..) -/
theorem pe_mKS {pl : Sem Bool} (c : MetW X.prog X.w X.K X.mg X.base (L2.CX X.prog X.w) k C m n ks gV sp) (cl : Cls X.K C) (tak : Takes X W) (hr : Room j X.A) (hk : k ≤ j) (he : PE X o ta) (ha : PA X (e :: es) t) (hkw : PK X kws tk)
    (hall : (backToKw pos (keywordEach kws X.env)).all (·.1.isSome) = true := by rfl) (hks : (backToKw pos (keywordEach kws X.env)).filterMap (·.1) = ks := by rfl)
    (hst : starEach (e :: es) X.env = (false, eval e X.env) :: starEach es X.env := by rfl) (hpl : ((backTo pos (starEach (e :: es) X.env)).any (·.1) || (backToKw pos (keywordEach kws X.env)).any (·.1.isNone)) = false := by rfl)
    (ht : eval (.Call (.Attribute o m apos) (e :: es) kws pos) X.env = (do
      let ov ← eval o X.env
      standAt apos.atName
      let (f, first) ← holding [ov] (getMethod ov m pl)
      callWith pos f first (backTo pos (starEach (e :: es) X.env)) (backToKw pos (keywordEach kws X.env))) := by rfl) :
    PE X (.Call (.Attribute o m apos) (e :: es) kws pos) (tMethK C m n ks.length sp gV (WE W) ta t tk) := by
  obtain ⟨f, fd, ps, g, F, at_, i, kp, b⟩ := c.ex
  refine ⟨fun pins s σ H Q I h => PySem.W.methodCall_KW (pl := pl) (thn (he.run pins s σ H _ I h) fun u s1 ⟨x, H1, I1, rx, a, dx, fs, ex, ea, l, q⟩ => ?_) ht⟩
  subst ex
  obtain rfl : u = Value.ref a := rx
  refine getmeth_ok I1 ea cl ⟨at_, i, kp⟩ l (PySem.W.callWith_KW (first := [.ref a]) (h₀ := X.base) I.ok.mod.kin kp hall (thn (ha.run pos pins s1 σ H1 _ I1 q) fun us s2 ⟨vs, H2, I2, r, q2⟩ => ?_) hpl hst)
  refine thn (hkw.run pos pins s2 σ H2 _ I2 q2) fun ws s3 ⟨zs, H3, I3, rz, l1, l2, q3⟩ => ⟨I3.kIn, ?_⟩
  rw [hks]
  have r1 : Vals (.ref a :: vs) (.ref a :: us) := .cons rfl r
  have r2 := b.rel r1 rz
  have n1 : (Value.ref a :: us).length = n := by rw [List.length_cons, ← r.length]; exact l1
  have n2 : ws.length = ks.length := rz.length.symm.trans l2
  show wpAny _ _ (call (.ref f) (Value.ref a :: us) (ks.zip ws)) _ _ _
  refine wpAny_call (codeAny_mono (F.run X.A X.stack s3 H3 ⟨.ref a :: us, ks.zip ws⟩ _ _ Q (WE W σ) (hr.mono hk) I3.env0 (b.to s3 _ ws I3.kIn n1 n2) r2 q3) fun r s' hq => ?_)
  match r, hq with
  | .error err, z => exact passAt tak σ pins _ _ err s' I3 z
  | .ok (.ret u), z => exact I3.after z
end
section
variable {P : Program} {w : World} {K : PySem.W.Frag} {mg : Str → Option Value} {base : Heap} {k : Nat} {C : Addr} {m qual : Str} {st : Stmt} {N ps ks : List Str} {kws : List (Str × V)} {sp : Sp}
theorem MthK.met (D : MthK K C m qual st kws) (S : FnScope N ps (defScope st)) (len : ∀ vs H Q E, sp vs H Q E → vs.length = ps.length) (n : Nat)
    (ms : List (Str × V)) (g : {α : Type} → List α → List α → List α → List α) (hk : kws ≠ []) (hms : ∀ q ∈ ms, q ∈ kws) (hrel : ∀ {vs mz zs : List V} {us mv ws : List Value}, Vals vs us → Vals mz mv → Vals zs ws → Vals (g vs mz zs) (g us mv ws))
    (hb : ∀ (D : Addr) (doc pm : Value) (an : Option Addr) (cdv ct : Value) (us mv ws : List Value), us.length = n → mv.length = ms.length → ws.length = ks.length →
      KwChain D ((ms.map (·.1)).zip mv) (bindArgs (PySem.W.fnOf m qual (defArgs st) (defBody st) (defScope st) .none (.ref D) doc pm an cdv ct) ⟨us, ks.zip ws⟩) (ps.zip (g us mv ws)))
    (body : ∀ f, BodyX P w K mg base N qual st f k sp) : MetW P w K mg base (L2.CX P w) (k + 1) C m n ks (fun vs zs => g vs (ms.map (·.2)) zs) sp :=
  let ⟨f, fd, F, a, i⟩ := D.ex
  let ⟨mv, b⟩ := F.kbinds0 n ks ms g hk hms hrel hb
  ⟨f, fd, ps, _, F.ok S len (body f), a, i, F.kp, b⟩
end
end Jg

/-! C(e, .., k = v, ..) that may raise, at the slots as they stand; methods without arguments -/
namespace Jg
open PySem PySem.Spec PyProof.Rows L2
structure MakN (P : Program) (w : World) (K : PySem.W.Frag) (mg : Str → Option Value) (base : Heap) (CX : CXT) (k : Nat) (x : Str) (C : Addr) (n : Nat) (ks : List Str) (gV : List V → List V → List V) (sp : Sp) : Prop where
  mg_ : mg x = some (.ref C)
  mks : PySem.W.makesIn K C = true
  kp : PySem.W.keepIn K (.ref C) = true
  ex : ∃ f fd ps g, FnOk P w K mg base CX k f fd ps sp ∧ PySem.W.findIn K (.ref C) "__init__" = some (some (.ref f)) ∧ PySem.W.isFn K (.ref f) = true ∧ KBn K fd ps (n + 1) ks g gV
def tMakeNS (C : Addr) (n m : Nat) (sp : Sp) (gV : List V → List V → List V) (E : L2.St → XK) (t tk : TA) : TE := fun σ H Q => t σ H fun vs H1 => tk σ H1 fun zs H2 => vs.length = n ∧ zs.length = m ∧ ∀ x dx, H2 x = none → H2 dx = none → dx ≠ x →
  sp (gV (.ref x :: vs) zs) (upd (upd H2 dx (.own x)) x (.ins C dx [])) (fun v H3 => v = .non ∧ Q (.ref x) H3) (E σ)
section
variable {X : Cx} {k j n : Nat} {C : Addr} {ks : List Str} {sp : Sp} {x : Str} {p pos : Pos} {kws : List Keyword} {e : Expr} {es : List Expr} {t ta : TA} {gV : List V → List V → List V} {W : WX}
theorem pe_mkNS (c : MakN X.prog X.w X.K X.mg X.base (L2.CX X.prog X.w) k x C n ks gV sp) (tk : Takes X W) (hr : Room j X.A) (hk : k + 1 ≤ j) (hg : Gl X x) (ha : PA X (e :: es) t) (hkw : PK X kws ta)
    (hall : (backToKw pos (keywordEach kws X.env)).all (·.1.isSome) = true := by rfl) (hks : (backToKw pos (keywordEach kws X.env)).filterMap (·.1) = ks := by rfl) (hdb : (x == ("__debug__" : Str)) = false := by decide)
    (he : starEach (e :: es) X.env = (false, eval e X.env) :: starEach es X.env := by rfl) (hpl : ((backTo pos (starEach (e :: es) X.env)).any (·.1) || (backToKw pos (keywordEach kws X.env)).any (·.1.isNone)) = false := by rfl) :
    PE X (.Call (.Name x p) (e :: es) kws pos) (tMakeNS C n ks.length sp gV (WE W) t ta) := by
  obtain ⟨f, fd, ps, g, F, ini, fn, b⟩ := c.ex
  refine ⟨fun pins s σ H Q I h => wpAny_Call_Name_kw (ld_glob I hg c.mg_ (PySem.W.callWith_KW (h₀ := X.base) I.ok.mod.kin c.kp hall (thn (ha.run pos pins s σ H _ I h) fun us s1 ⟨vs, H1, I1, r, q⟩ => ?_) hpl he) hdb)⟩
  refine thn (hkw.run pos pins s1 σ H1 _ I1 q) fun ws s2 ⟨zs, H2, J, rz, l1, l2, q⟩ => ⟨J.kIn, ?_⟩
  rw [hks]
  let m := s2.heap.objs.size
  have q1 := q (m + 1) m (J.hok.fresh (Nat.le_succ _)) (J.hok.fresh (Nat.le_refl _)) (Nat.ne_of_lt (Nat.lt_succ_self _))
  have J2 := Inv.made (C := C) J
  have r1 : Vals (V.ref (m + 1) :: vs) (Value.ref (m + 1) :: us) := .cons rfl r
  have n1 : (Value.ref (m + 1) :: us).length = n + 1 := by
    rw [List.length_cons, ← r.length, l1]
  have run := F.run _ X.stack _ _ ⟨Value.ref (m + 1) :: us, ks.zip ws⟩ _ _ _ (WE W σ) ((hr.mono hk).make C us (ks.zip ws)) (J2.env0.make C us (ks.zip ws)) (b.to _ (Value.ref (m + 1) :: us) ws J2.kIn n1 (rz.length.symm.trans l2)) (b.rel r1 rz) q1
  show wpAny (model X.prog X.w) X.A (call (.ref C) us (ks.zip ws)) (EP X pins σ Q) X.xe s2
  refine wpAny_call (make_map (f := f) J.kIn c.mks ini (beq_iff_eq.mp fn) (codeAny_mono run fun o s3 z => ?_))
  match o, z with
  | .error err, z => exact passAt tk σ pins _ _ err s3 J2 z
  | .ok (.ret u), z =>
    obtain ⟨v, H3, J3, rv, ev, q3⟩ := J2.after z
    subst ev
    exact ⟨rv, V.ref (m + 1), H3, J3, rfl, q3⟩
end
section
variable {P : Program} {w : World} {K : PySem.W.Frag} {mg : Str → Option Value} {base : Heap} {k : Nat} {C : Addr} {x qual : Str} {st : Stmt} {N ps ks : List Str} {kws : List (Str × V)} {sp : Sp}
theorem IniK.makN (D : IniK K C qual st kws) (m : mg x = some (.ref C)) (mk : PySem.W.makesIn K C = true) (kp : PySem.W.keepIn K (.ref C) = true) (S : FnScope N ps (defScope st)) (len : ∀ vs H Q E, sp vs H Q E → vs.length = ps.length) (n : Nat)
    (ms : List (Str × V)) (g : {α : Type} → List α → List α → List α → List α) (hk : kws ≠ []) (hms : ∀ q ∈ ms, q ∈ kws) (hrel : ∀ {vs mz zs : List V} {us mv ws : List Value}, Vals vs us → Vals mz mv → Vals zs ws → Vals (g vs mz zs) (g us mv ws))
    (hb : ∀ (D : Addr) (doc pm : Value) (an : Option Addr) (cdv ct : Value) (us mv ws : List Value), us.length = n + 1 → mv.length = ms.length → ws.length = ks.length →
      KwChain D ((ms.map (·.1)).zip mv) (bindArgs (PySem.W.fnOf "__init__" qual (defArgs st) (defBody st) (defScope st) .none (.ref D) doc pm an cdv ct) ⟨us, ks.zip ws⟩) (ps.zip (g us mv ws)))
    (body : ∀ f, BodyX P w K mg base N qual st f k sp) : MakN P w K mg base (L2.CX P w) (k + 1) x C n ks (fun vs zs => g vs (ms.map (·.2)) zs) sp :=
  let ⟨f, fd, F, a, i⟩ := D.ex
  let ⟨mv, b⟩ := F.kbinds0 (n + 1) ks ms g hk hms hrel hb
  ⟨m, mk, kp, f, fd, ps, _, F.ok S len (body f), a, i, b⟩
end
/-! ### o.m() -/
def tMeth0S (C : Addr) (m : Str) (sp : Sp) (E : L2.St → XK) (ta : TE) : TE := fun σ H Q => ta σ H fun x H1 => ∃ a dx fs, x = .ref a ∧ H1 a = some (.ins C dx fs) ∧ fs.lookup m = none ∧ sp [.ref a] H1 Q (E σ)
section
variable {X : Cx} {k j : Nat} {C : Addr} {x m : Str} {sp : Sp} {W : WX} {p pos apos : Pos} {o : Expr} {ta : TE}
theorem pe_mz {pl : Sem Bool} (c : Met X.prog X.w X.K X.mg X.base CX0 k C m sp) (cl : Cls X.K C) (hr : Room j X.A) (hk : k ≤ j) (he : PE X o ta)
    (ht : eval (.Call (.Attribute o m apos) [] [] pos) X.env = (do
      let ov ← eval o X.env
      standAt apos.atName
      let (f, first) ← holding [ov] (getMethod ov m pl)
      callWith pos f first (backTo pos (starEach [] X.env)) (backToKw pos (keywordEach [] X.env))) := by rfl) :
    PE X (.Call (.Attribute o m apos) [] [] pos) (tMeth C m sp [] E0 ta tNil) := by
  obtain ⟨f, fd, ps, F, a, i, kp, b⟩ := c.ex
  exact pe_meth0 (pl := pl) he cl ⟨a, i, kp⟩ F (hr.mono hk) b .nil pass0 ht
theorem pe_mzS {pl : Sem Bool} (c : Met X.prog X.w X.K X.mg X.base (L2.CX X.prog X.w) k C m sp) (cl : Cls X.K C) (tk : Takes X W) (hr : Room j X.A) (hk : k ≤ j) (he : PE X o ta)
    (ht : eval (.Call (.Attribute o m apos) [] [] pos) X.env = (do
      let ov ← eval o X.env
      standAt apos.atName
      let (f, first) ← holding [ov] (getMethod ov m pl)
      callWith pos f first (backTo pos (starEach [] X.env)) (backToKw pos (keywordEach [] X.env))) := by rfl) :
    PE X (.Call (.Attribute o m apos) [] [] pos) (tMeth0S C m sp (WE W) ta) := by
  obtain ⟨f, fd, ps, F, at_, i, kp, b⟩ := c.ex
  refine ⟨fun pins s σ H Q I h => PySem.W.methodCall_KW (pl := pl) (thn (he.run pins s σ H _ I h) fun u s1 ⟨x, H1, I1, rx, a, dx, fs, ex, ea, l, q⟩ => ?_) ht⟩
  subst ex
  obtain rfl : u = Value.ref a := rx
  refine getmeth_ok I1 ea cl ⟨at_, i, kp⟩ l ?_
  exact PySem.W.callWith_K0 (first := [.ref a]) I1.kIn kp (run_fnS (E := WE W) (us := [.ref a]) (vs := [.ref a]) F (hr.mono hk) b (passAt tk σ) I1 (.cons rfl .nil) q)
end
end Jg

/-! repr of a list among whose items are dicts of data -/
namespace Jg
open PySem PySem.Spec PyProof.Rows L2
def keyD : Key → PyData
  | .inl i => .int i
  | .inr x => .str x
def kvD (da : List (Key × PyData)) : List (PyData × PyData) := da.map fun p => (keyD p.1, p.2)
/-- a dict's values are data -/
def DvL (K : PySem.W.Frag) (H : Hp) (ks : List (Key × V)) (da : List (Key × PyData)) : Prop := Paired (fun p q => p.1 = q.1 ∧ Dp K H p.2 q.2) ks da
inductive Dq (K : PySem.W.Frag) (H : Hp) : V → PyData → Prop
  | dat {v : V} {d : PyData} (h : Dp K H v d) : Dq K H v d
  | dic {a : Addr} {ks : List (Key × V)} {da : List (Key × PyData)} (h : H a = some (.dK ks)) (dv : DvL K H ks da) : Dq K H (.ref a) (.dict (kvD da))
inductive DqAll (K : PySem.W.Frag) (H : Hp) : List V → List PyData → Prop
  | nil : DqAll K H [] []
  | cons {v : V} {vs : List V} {d : PyData} {ds : List PyData} : Dq K H v d → DqAll K H vs ds → DqAll K H (v :: vs) (d :: ds)
def rRpL (K : PySem.W.Frag) : List V → Hp → VK → Prop := fun xs H Q => ∃ a vs ds, xs = [.ref a] ∧ SqL K H a vs ∧ DqAll K H vs ds ∧ PyData.showableAll ds = true ∧ PyData.depthAll ds ≤ 40 ∧ (PyData.list ds).shown.length ≤ sizeLine ∧ Q (.str (PyData.list ds).shown) H
theorem noD_keys : ∀ da : List (Key × PyData), PyData.hasDictAll ((kvD da).map (·.1)) = false
  | [] => rfl
  | p :: r => by
    have ih := noD_keys r
    obtain ⟨k, d⟩ := p
    show (PyData.hasDict (keyD k) || PyData.hasDictAll ((kvD r).map (·.1))) = false
    rw [ih]
    cases k <;> rfl
theorem noD_all {K : PySem.W.Frag} {H : Hp} {ks : List (Key × V)} {da : List (Key × PyData)} (dv : DvL K H ks da) : PyData.hasDictAll ((kvD da).map (·.2)) = false := by
  unfold DvL at dv
  induction dv with
  | nil => rfl
  | @cons p q ps qs r _ ih =>
    show (PyData.hasDict q.2 || PyData.hasDictAll ((kvD qs).map (·.2))) = false
    rw [ih, noDict _ _ _ _ r.2]; rfl
section
variable {X : Cx} {pins : List (Addr × Obj)} {σ : L2.St} {H : Hp} {s : Shared}
theorem reads_keys {P : Program} {w : World} {h : Heap} {K : PySem.W.Frag} : ∀ {es : List DictEntry} {kvs : List (Key × Value)} {ks : List (Key × V)} {da : List (Key × PyData)}, Pairs (mixKind P w) es kvs → KV ks kvs → DvL K H ks da → ∃ as, ReadsAll h (es.map (·.key)) ((kvD da).map (·.1)) as := by
  intro es kvs ks da p
  induction p generalizing ks da with
  | nil =>
    intro kv dv
    cases kv
    cases dv
    exact ⟨_, ReadsAll.nil⟩
  | @cons e kv es kvs hk hv _ ih =>
    intro r dv
    cases r with
    | cons r1 r2 =>
      cases dv with
      | cons d1 d2 =>
        obtain ⟨as, R⟩ := ih r2 d2
        rename_i p0 _ q0 _
        have e1 : q0.1 = kv.1 := d1.1.symm.trans r1.1
        obtain ⟨kk, dd⟩ := q0
        subst e1
        rcases keyIs_shape hk with ⟨i, t, e2, e3⟩ | ⟨x, t, e2, e3⟩
        · refine ⟨_, ReadsAll.cons (as := []) ?_ R⟩
          show Reads h e.key (keyD kv.1) []
          rw [e3, e2]; exact Reads.int i t
        · refine ⟨_, ReadsAll.cons (as := []) ?_ R⟩
          show Reads h e.key (keyD kv.1) []
          rw [e3, e2]; exact Reads.str x t
theorem reads_vals (I : Inv X pins σ H s) {P : Program} {w : World} : ∀ {es : List DictEntry} {kvs : List (Key × Value)} {ks : List (Key × V)} {da : List (Key × PyData)}, Pairs (mixKind P w) es kvs → KV ks kvs → DvL X.K H ks da → ∃ as, ReadsAll s.heap (es.map (·.val)) ((kvD da).map (·.2)) as := by
  intro es kvs ks da p
  induction p generalizing ks da with
  | nil =>
    intro kv dv
    cases kv
    cases dv
    exact ⟨_, ReadsAll.nil⟩
  | @cons e kv es kvs hk hv _ ih =>
    intro r dv
    cases r with
    | cons r1 r2 =>
      cases dv with
      | cons d1 d2 =>
        obtain ⟨as, R⟩ := ih r2 d2
        obtain ⟨bs, R1⟩ := Dp.reads I _ _ _ d1.2 r1.2
        refine ⟨_, ReadsAll.cons (as := bs) ?_ R⟩
        show Reads s.heap e.val _ bs
        rw [hv]; exact R1
/-- a value is shown under a list -/
theorem dq_shown (I : Inv X pins σ H s) {v : V} {d : PyData} {u : Value} (h : Dq X.K H v d) (r : RelV v u) (sh : d.showable = true) (z : d.shown.length ≤ sizeLine) :
    ∃ as bs, Reads s.heap u d as ∧ ReadAtMost s.heap d.depth bs ∧ ReprK X.prog X.w bs s.heap d.depth u d.shown := by
  cases h with
  | dat h =>
    obtain ⟨as, R⟩ := Dp.reads I d v u h r
    obtain ⟨bs, b1, b2⟩ := ReprK.of_reads (prog := X.prog) (w := X.w) R sh (PyData.noDict_hsm (noDict _ _ _ _ h)) z
    exact ⟨as, bs, R, b1, b2⟩
  | @dic a ks da ha dv =>
    cases r
    obtain ⟨_, ya, va, ra, o, es, n, h1, ex, h3, _, pr, _⟩ := (show ObjOk X.prog X.w H s.heap a (.dK ks) from I.hok a _ ha)
    have h2 := ex.1
    obtain ⟨as, r1⟩ := reads_keys (h := s.heap) pr ra dv
    obtain ⟨bs, r2⟩ := reads_vals I pr ra dv
    have R : Reads s.heap (.ref a) (.dict (kvD da)) _ := .dict h1 h2 h3 r1 r2
    have zz : (dictText (PyData.shownKv (kvD da))).length ≤ sizeLine := by simpa only [PyData.shown] using z
    obtain ⟨sk, sv⟩ := PyData.showableKv_split (kvD da) (by simpa only [PyData.showable] using sh)
    obtain ⟨c1, m1, k1⟩ := ReprAllK.of_readsAll (prog := X.prog) (w := X.w) r1 sk (fun q => by rw [noD_keys] at q; cases q) fun t ht => by
      obtain ⟨p, hp, hl⟩ := PyData.shownKv_key_le _ t ht
      exact Nat.le_trans hl (Nat.le_trans (dictText_mem_le hp) zz)
    obtain ⟨c2, m2, k2⟩ := ReprAllK.of_readsAll (prog := X.prog) (w := X.w) r2 sv (fun q => by rw [noD_all dv] at q; cases q) fun t ht => by
      obtain ⟨p, hp, hl⟩ := PyData.shownKv_val_le _ t ht
      exact Nat.le_trans hl (Nat.le_trans (dictText_mem_le hp) zz)
    have m : ReadAtMost s.heap (PyData.depthKv (kvD da)) (c1 ++ c2) := ReadAtMost.append (m1.mono (PyData.depthAll_keys_le _)) (m2.mono (PyData.depthAll_vals_le _))
    have na : a ∉ c1 ++ c2 := not_mem_of_deeper R (by simp only [PyData.depth]; omega) m
    refine ⟨_, a :: (c1 ++ c2), R, ReadAtMost.cons R (by simp only [PyData.depth]; omega) m, ?_⟩
    simp only [PyData.depth, PyData.shown, PyData.shownKv_eq]
    exact ReprK.dict h1 h2 h3 ya na (ReprEntriesK.of_two es.toList _ _ (k1.more_le (fun _ q => List.mem_append_left _ q) (PyData.depthAll_keys_le _)) (k2.more_le (fun _ q => List.mem_append_right _ q) (PyData.depthAll_vals_le _)))
theorem dqs_shown (I : Inv X pins σ H s) : ∀ {vs : List V} {ds : List PyData} {us : List Value}, DqAll X.K H vs ds → Vals vs us → PyData.showableAll ds = true → (∀ t ∈ PyData.shownAll ds, t.length ≤ sizeLine) →
    ∃ as bs, ReadsAll s.heap us ds as ∧ ReadAtMost s.heap (PyData.depthAll ds) bs ∧ ReprAllK X.prog X.w bs s.heap (PyData.depthAll ds) us (PyData.shownAll ds) := by
  intro vs ds us h
  induction h generalizing us with
  | nil =>
    intro r _ _
    cases r
    exact ⟨_, [], ReadsAll.nil, (fun _ q => nomatch q), .nil⟩
  | @cons v vs d ds h1 _ ih =>
    intro r sh z
    cases r with
    | cons r1 r2 =>
      obtain ⟨s1, s2⟩ : d.showable = true ∧ PyData.showableAll ds = true := by simpa [PyData.showableAll] using sh
      obtain ⟨as, bs, R, m, k⟩ := dq_shown I h1 r1 s1 (z _ (by simp only [PyData.shownAll]; exact List.mem_cons_self ..))
      obtain ⟨as2, bs2, R2, m2, k2⟩ := ih r2 s2 fun t ht => z t (by simp only [PyData.shownAll]; exact List.mem_cons_of_mem _ ht)
      refine ⟨_, bs ++ bs2, ReadsAll.cons R R2, ?_, ?_⟩
      · simp only [PyData.depthAll]
        exact ReadAtMost.append (m.mono (Nat.le_max_left _ _)) (m2.mono (Nat.le_max_right _ _))
      · simp only [PyData.depthAll, PyData.shownAll]
        exact .cons ((k.more fun _ q => List.mem_append_left _ q).level_le (Nat.le_max_left _ _)) (k2.more_le (fun _ q => List.mem_append_right _ q) (Nat.le_max_right _ _))
end
theorem call_rpL {X : Cx} (g : X.A.guards = some []) (hu : X.A.units + 64 < cLine) : CallR X (.builtin "repr") (rRpL X.K) := by
  intro pins s σ H xs us Q I r h
  obtain ⟨a, vs, ds, rfl, sq, dq, sh, dp, z, q⟩ := h
  obtain ⟨u, rfl, ru⟩ := vals1 r
  cases ru
  obtain ⟨its, rv, ⟨o, n, ho, hc, _, hd⟩, _⟩ := I.list sq
  have zz : (listText (PyData.shownAll ds)).length ≤ sizeLine := by simpa only [PyData.shown] using z
  obtain ⟨as, bs, R, m, k⟩ := dqs_shown I dq rv sh fun t ht => Nat.le_trans (listText_mem_le ht) zz
  have RL : Reads s.heap (.ref a) (.list ds) _ := .list ho hc hd R
  have na : a ∉ bs := not_mem_of_deeper RL (by simp only [PyData.depth]; omega) m
  refine call_repr_slot (by omega) ⟨o, ho, hc⟩ F.slot_list_repr.toG ?_
  simp only [PyData.shown] at q
  cases its with
  | nil =>
    cases R
    simp only [PyData.shownAll, listText_nil] at q
    exact call_list_repr_empty ⟨o, ho, hc⟩ ho hd ⟨_, _, rfl, .str _, H, I.tok _, ⟨_, rfl⟩, q⟩
  | cons y l =>
    exact call_list_reprK ho hc hd na (by simpa using k.length_eq) (fun i y e => k.item i y (by simpa using e)) g (fun b _ => Clear.nil b) (by show X.A.units + 1 + (PyData.depthAll ds + 1) < cLine; omega) (fun _ _ e => e) (fun h' u tk hk => ⟨_, _, rfl, .str _, H, I.kept hk, ⟨_, rfl⟩, q⟩) zz
theorem dp_keep {K : PySem.W.Frag} {H H' : Hp} (s : ∀ q o, H q = some o → H' q = some o) {v : V} {d : PyData} (h : Dp K H v d) : Dp K H' v d := by
  have sl : ∀ {a : Addr} {xs : List V}, SqL K H a xs → SqL K H' a xs := fun h => by
    rcases h with (h | ⟨o, h⟩) | h
    · exact .inl (.inl (s _ _ h))
    · exact .inl (.inr ⟨o, s _ _ h⟩)
    · exact .inr h
  have st : ∀ {a : Addr} {xs : List V}, SqT K H a xs → SqT K H' a xs := fun h => by
    rcases h with (h | ⟨o, h⟩) | h
    · exact .inl (.inl (s _ _ h))
    · exact .inl (.inr ⟨o, s _ _ h⟩)
    · exact .inr h
  refine Dp.rec (motive_1 := fun v d _ => Dp K H' v d) (motive_2 := fun vs ds _ => DpAll K H' vs ds) ?_ ?_ ?_ ?_ ?_ ?_ ?_ ?_ h
  · exact .non
  · exact fun b => .bl b
  · exact fun i => .int i
  · exact fun x => .str x
  · exact fun h _ ih => .lst (sl h) ih
  · exact fun h _ ih => .tup (st h) ih
  · exact .nil
  · exact fun _ _ h1 h2 => .cons h1 h2
/-- list(x) and tuple(x), named -/
def rListOf (K : PySem.W.Frag) : List V → Hp → VK → Prop := fun xs H Q => ∃ p ys, xs = [.ref p] ∧ (SqL K H p ys ∨ SqT K H p ys) ∧ ∀ l, H l = none → Q (.ref l) (upd H l (.lst ys))
theorem cr_listOf {X : Cx} : CallR X (.type "list") (rListOf X.K) := call_list_of
def rTupOf (K : PySem.W.Frag) : List V → Hp → VK → Prop := fun xs H Q => ∃ p ys, xs = [.ref p] ∧ ((SqL K H p ys ∧ ∀ l, H l = none → Q (.ref l) (upd H l (.tup ys))) ∨ (SqT K H p ys ∧ Q (.ref p) H))
theorem cr_tupOf {X : Cx} : CallR X (.type "tuple") (rTupOf X.K) := call_tuple_of
theorem pe_revLK {X : Cx} {K : PySem.W.Frag} {e : Expr} {te : TE} {k : Nat} {p1 p2 p3 pos : Pos} (hK : X.K = K) (he : PE X e te) : PE X (.Subscript e (.Slice none none (some (.UnaryOp .USub (.Constant (.int 1) k p1) p2)) p3) pos) (tRevL K te) := hK ▸ pe_revL he
end Jg

/-! isinstance(e, (A, B)) of a caught exception; a try in a loop -/
namespace Jg
open PySem PySem.Spec PyProof.Rows L2
def rIsXT (K : PySem.W.Frag) (cls : Value) (C a : Addr) (d : Option Addr) : List V → Hp → VK → Prop := fun xs H Q => ∃ (tp : Addr) (cs : List V) (us : List Value) (b : Bool) (dd : Addr) (fs : List (Str × V)), xs = [.ref a, .ref tp] ∧ H tp = some (.tup cs) ∧ Paired ClsV cs us ∧ cls = .ref C ∧ d = some dd ∧ H dd = some (.xd fs) ∧ PySem.W.kitAny K (.ref C) us = some b ∧ Q (.bl b) H
theorem kAny2 {K : PySem.W.Frag} {t c1 c2 : Value} {b1 b2 : Bool} (h1 : PySem.W.kitOne K t c1 = some b1) (h2 : PySem.W.kitOne K t c2 = some b2) : PySem.W.kitAny K t [c1, c2] = some (b1 || b2) := by
  show (match PySem.W.kitOne K t c1 with | some true => some true | some false => PySem.W.kitAny K t [c2] | none => none) = _
  rw [h1]
  cases b1 with
  | true => rfl
  | false =>
    show (match PySem.W.kitOne K t c2 with | some true => some true | some false => some false | none => none) = _
    rw [h2]
    cases b2 <;> rfl
section
variable {X : Cx} {a C : Addr} {oe : Obj} {cls : Value} {d : Option Addr} {pn : List (Addr × Obj)}
theorem call_isXT (T : ExcK X.K C) (hz : Zc cls d oe) (hf : ∃ vs, oe.data = .fields vs) : CallR (X.suite a ((a, oe) :: pn)) (.builtin "isinstance") (rIsXT X.K cls C a d) := by
  intro pins s σ H xs us Q I r h
  obtain ⟨tp, cs, ws, b, dd, fs, rfl, hT, k0, rfl, rfl, e, k, q⟩ := h
  obtain ⟨u1, u2, rfl, r1, r2⟩ := vals2 r
  cases (show u1 = Value.ref a from r1)
  cases (show u2 = Value.ref tp from r2)
  obtain ⟨_, its, rv, o, h1, h2, n, h3⟩ := (show ObjOk X.prog X.w H s.heap tp (.tup cs) from I.hok tp _ hT)
  have e3 := ClsV.all k0 rv
  subst e3
  obtain ⟨od, J⟩ := exc_inst I hz hf e
  have cl : (PySem.W.clsIn X.K C).isSome = true := by
    obtain ⟨cd, z, _⟩ := PySem.W.any_some T.xf.hdC
    rw [z]; rfl
  obtain ⟨oc, od2, dt, sl⟩ := o
  simp only at h2 h3
  subst h2 h3
  exact PySem.W.kia_tup (PySem.W.kitx_exc cl T.xf.ga T.xf.gg T.xf.exC T.ha T.hn T.ht T.hm) I.kIn J h1 k (fun z => nomatch z) fun tk => ⟨.bl b, H, I.kept (t' := tk) fun _ _ z => z, rfl, q⟩
end
/-- a try in a loop: its reading by a name -/
def tTry (tb : WX → TS) (w : Ends → WX) : TS := fun D σ H => tb (w D) D σ H
theorem ps_tryT {X : Cx} {Wout : WX} {body : List Stmt} {h₀ : ExceptHandler} {hds : List ExceptHandler} {w : Ends → WX} {pos : Pos} {tb : WX → TS} (hd : Hds X Wout (h₀ :: hds) w) (hs : X.stack = X.env :: X.outer) (fr : X.env.frame = some X.env.locals) (hN : X.N.Nodup) (tk : Takes X Wout)
    (hb : ∀ (W : WX) (pn : List (Addr × Obj)) (xe : Value → Shared → Prop), Takes (X.tr pn xe) W → PassesOwn (model X.prog X.w) X.A X.env xe → PSs (X.tr pn xe) body (tb W)) :
    PS X (.Try body (h₀ :: hds) [] [] pos) (tTry tb w) := ps_try hd hs fr hN tk hb
end Jg

/-! set(words) of a list of texts; sorted and len of it -/
namespace Jg
open PySem PySem.Spec PyProof.Rows L2
def wKey (e : Int × Value) : Str := match e.2 with | .str z _ => z | _ => Str.empty
def IsW (P : Program) (w : World) (e : Int × Value) : Prop := ∃ z tk, e.2 = Value.str z tk ∧ e.1 = (strKind P w).hash z
/-- the set of the texts zs, each once, in any order -/
def SetW (P : Program) (w : World) (h : Heap) (a : Addr) (zs : List Str) : Prop := ∃ o es ep t, h.get? a = some o ∧ o.ExactSet ∧ o.data = .set es ep t ∧ (∀ e ∈ es.toList, IsW P w e) ∧ (es.toList.map wKey).Perm zs ∧ zs.Nodup ∧ zs.length < scanBound ∧
  t.fits es.size = true ∧ Ris t.place.toList ∧ (w.params.followText "set-order" = true ∨ t.led = true)
section
variable {P : Program} {w : World} {h h' : Heap} {a : Addr} {zs : List Str}
theorem SetW.move (R : SetW P w h a zs) (k : ∀ o, h.get? a = some o → h'.get? a = some o) : SetW P w h' a zs :=
  let ⟨o, es, ep, t, ho, r⟩ := R
  ⟨o, es, ep, t, k o ho, r⟩
theorem SetW.cast {ys : List Str} (R : SetW P w h a zs) (e : zs = ys) : SetW P w h a ys := e ▸ R
theorem isW_key {e : Int × Value} (g : IsW P w e) (z : Str) : (strKind P w).is z e.2 = true ↔ wKey e = z := by
  obtain ⟨y, tk, e2, _⟩ := g
  have e3 : wKey e = y := by unfold wKey; rw [e2]
  rw [e3, e2]
  constructor
  · exact fun q => (strKind P w).inj _ _ _ (strKind_is P w y tk) q
  · intro q
    rw [← q]
    exact strKind_is P w y tk
theorem isW_elems {l : List (Int × Value)} (g : ∀ e ∈ l, IsW P w e) : ElemsOf (strKind P w) l := fun e he =>
  let ⟨z, tk, e1, e2⟩ := g e he
  ⟨⟨z, e1 ▸ strKind_is P w z tk, e2⟩, by rw [e1]; rfl⟩
end
section
variable {P : Program} {w : World} {A : Around} {E : Value → Shared → Prop} {s : Shared} {a : Addr} {zs : List Str}
/-- the entries are laid, the table may grow -/
theorem setW_lay {f : Bool → Sem Unit} (pf : ∀ (b : Bool) (s1 : Shared) (K : Unit → Shared → Prop), K () s1 → wpAny (model P w) A (f b) K E s1) {o : Obj} {es xs : Array (Int × Value)} {ep : Nat} {t t2 : SetTable} {ys : List Str} (at_ : s.heap.get? a = some o) (ex : o.ExactSet)
    (dt : o.data = .set es ep t) (gd : ∀ e ∈ xs.toList, IsW P w e) (pm : (xs.toList.map wKey).Perm ys) (nd : ys.Nodup) (few : ys.length < scanBound) (ft : t2.fits xs.size = true) (ri : Ris t2.place.toList) (ld : w.params.followText "set-order" = true ∨ t2.led = true) {dum : Bool}
    {R : Option Bool → Shared → Prop} (k : ∀ h', Heap.SameBut a s.heap h' → SetW P w h' a ys → R (some true) { s with heap := h' }) :
    wpAny (model P w) A (do
        storeSet a xs t2
        if (!dum && t2.tooFull) = true then do
            f (relayAll t2 xs (SetTable.grown xs.size)).2.2
            storeSet a (relayAll t2 xs (SetTable.grown xs.size)).1 (relayAll t2 xs (SetTable.grown xs.size)).2.1
            pure (some true)
          else pure (some true)) R E s := by
  have many : ∀ u : Array (Int × Value), (u.toList.map wKey).Perm ys → u.size < scanBound := fun u q => by
    have z := q.length_eq
    rw [List.length_map, Array.length_toList] at z
    omega
  refine wpAny_bind (wpAny_storeSet_of at_ dt ?_ (fits_of_scanBound (many xs pm)))
  have w1 := store_at (es' := xs) (t' := t2) at_ dt
  have same1 := Heap.SameBut.update s.heap a (Obj.putSet xs t2)
  split
  · have q1 := relayAll_perm t2 xs (SetTable.grown xs.size)
    have q2 := relayAll_fits t2 xs (SetTable.grown xs.size)
    have q3 := relayAll_ris t2 xs (SetTable.grown xs.size)
    have q4 := relayAll_led t2 xs (SetTable.grown xs.size)
    revert q1 q2 q3 q4
    generalize relayAll t2 xs (SetTable.grown xs.size) = Y
    obtain ⟨us, t3, gv⟩ := Y
    intro q1 q2 q3 q4
    have pm2 : (us.toList.map wKey).Perm ys := (q1.map wKey).trans pm
    refine wpAny_bind (pf _ _ _ (wpAny_bind (wpAny_storeSet_of w1 rfl ?_ (fits_of_scanBound (many us pm2)))))
    refine wpAny_pure (k _ (same1.trans (Heap.SameBut.update _ a _)) ⟨_, us, _, t3, store_at (es' := us) (t' := t3) w1 rfl, ex, rfl, fun e he => gd e (q1.mem_iff.mp he), pm2, nd, few, q2, q3, ?_⟩)
    rcases ld with l | l
    · exact .inl l
    · exact .inr (by rw [← l]; exact q4)
  · exact wpAny_pure (k _ same1 ⟨_, xs, _, t2, w1, ex, rfl, gd, pm, nd, few, ft, ri, ld⟩)
theorem setW_add {z : Str} {tk : Tok} {Q : Bool → Shared → Prop} (R : SetW P w s.heap a zs) (room : zs.length + 1 < scanBound) (k : ∀ b h', Heap.SameBut a s.heap h' → SetW P w h' a (if z ∈ zs then zs else z :: zs) → Q b { s with heap := h' }) :
    wpAny (model P w) A (setAddHashed a (.str z tk) ((strKind P w).hash z)) Q E s := by
  obtain ⟨o, es, ep, t, at_, ex, dt, gd, pm, nd, few, ft, ri, ld⟩ := id R
  have el := isW_elems gd
  have small : es.size < scanBound := by
    have q := pm.length_eq
    rw [List.length_map, Array.length_toList] at q
    omega
  have sc : (Value.str z tk).scannable = true := rfl
  have isz : (strKind P w).is z (.str z tk) = true := strKind_is P w z tk
  unfold setAddHashed setAddHashedIn
  refine wpAny_holding (wpAny_bind (wpAny_setState_of at_ dt ft ?_))
  dsimp only
  rw [byScan_of sc small el]
  simp only [↓reduceIte]
  unfold setAddByScan
  refine wpAny_bind (wpAny_bind (wpAny_rule (wpAny_bind (wpAny_setScan_of isz at_ dt ft el ?_))))
  cases fi : List.findIdx? (fun e => (strKind P w).is z e.2) es.toList with
  | some j =>
    dsimp only
    obtain ⟨lt, yes, _⟩ := List.findIdx?_eq_some_iff_getElem.mp fi
    have mem : z ∈ zs := pm.mem_iff.mp (List.mem_map.mpr ⟨_, List.getElem_mem lt, (isW_key (gd _ (List.getElem_mem lt)) z).mp yes⟩)
    exact wpAny_pure (wpAny_pure (k _ s.heap (Heap.SameBut.refl a s.heap) (R.cast (if_pos mem).symm)))
  | none =>
    dsimp only
    have out : z ∉ zs := fun m => by
      obtain ⟨e, he, q⟩ := List.mem_map.mp (pm.mem_iff.mpr m)
      have c := List.findIdx?_eq_none_iff.mp fi e he
      rw [(isW_key (gd e he) z).mpr q] at c
      cases c
    rw [if_neg out] at k
    have q1 := layNew_perm t es ((strKind P w).hash z) (.str z tk)
    have q2 := layNew_fits t es ((strKind P w).hash z) (.str z tk)
    have q3 := layNew_ris t es ((strKind P w).hash z) (.str z tk) ri
    have q4 := layNew_led t es ((strKind P w).hash z) (.str z tk)
    revert q1 q2 q3 q4
    generalize layNew t es ((strKind P w).hash z) (.str z tk) = Y
    obtain ⟨xs, t1, dum, gv⟩ := Y
    intro q1 q2 q3 q4
    have pc : xs.toList.Perm (((strKind P w).hash z, Value.str z tk) :: es.toList) := by
      have q := q1
      rw [Array.toList_push] at q
      exact q.trans (List.perm_append_singleton _ _)
    have pz : (xs.toList.map wKey).Perm (z :: zs) := (pc.map wKey).trans (List.Perm.cons z pm)
    have gd2 : ∀ e ∈ xs.toList, IsW P w e := fun e he => (List.mem_cons.mp (pc.mem_iff.mp he)).elim (fun q => q ▸ ⟨z, tk, rfl, rfl⟩) (gd e)
    have ld2 : w.params.followText "set-order" = true ∨ t1.led = true := ld.elim .inl fun l => .inr (by rw [← l]; exact q4)
    have few2 : (z :: zs).length < scanBound := room
    refine wpAny_bind ?_
    refine (fun (m : ∀ {K : Unit → Shared → Prop}, K () s → wpAny (model P w) A _ K E s) (r : _) => m r) (fun q => by cases gv <;> first | exact wpAny_pure q | exact wpAny_rule q) ?_
    split
    · refine wpAny_bind ?_
      rw [hashByValue_scannable 8 sc]
      refine wpAny_pure (setW_lay (fun b s1 K q => by cases b <;> first | exact wpAny_pure q | exact wpAny_rule q) at_ ex dt gd2 pz (List.nodup_cons.mpr ⟨out, nd⟩) few2 ?_ ?_ ?_ fun h' sb r => wpAny_pure (k _ h' sb r))
      · first | (split <;> first | exact q2 | exact SetTable.fits_plain_off q2) | exact q2
      · first | (split <;> exact q3) | exact q3
      · first | (split <;> exact ld2) | exact ld2
    · refine wpAny_bind (wpAny_pure ?_)
      simp only [↓reduceIte]
      exact setW_lay (fun b s1 K q => by cases b <;> first | exact wpAny_pure q | exact wpAny_rule q) at_ ex dt gd2 pz (List.nodup_cons.mpr ⟨out, nd⟩) few2 q2 q3 ld2 fun h' sb r => wpAny_pure (k _ h' sb r)
end
/-- each text once -/
def addW (l : List Str) (z : Str) : List Str := if z ∈ l then l else z :: l
def onceW (ks : List Str) : List Str := ks.foldl addW []
theorem addW_len (l : List Str) (z : Str) : (addW l z).length ≤ l.length + 1 := by
  unfold addW
  split
  · omega
  · exact Nat.le_refl _
theorem fold_len : ∀ (ks l : List Str), (ks.foldl addW l).length ≤ l.length + ks.length
  | [], l => Nat.le_refl _
  | z :: r, l => by
    have h1 := fold_len r (addW l z)
    have h2 := addW_len l z
    rw [List.foldl_cons, List.length_cons]
    omega
theorem onceW_len (ks : List Str) : (onceW ks).length ≤ ks.length := by
  have h := fold_len ks []
  rw [List.length_nil, Nat.zero_add] at h
  exact h
theorem fold_mem : ∀ (ks l : List Str) (z : Str), z ∈ ks.foldl addW l ↔ z ∈ l ∨ z ∈ ks
  | [], l, z => by simp
  | y :: r, l, z => by
    rw [List.foldl_cons, fold_mem r]
    unfold addW
    by_cases m : y ∈ l
    · rw [if_pos m, List.mem_cons]
      constructor
      · exact fun q => q.elim .inl fun q => .inr (.inr q)
      · rintro (q | q | q)
        · exact .inl q
        · exact .inl (q ▸ m)
        · exact .inr q
    · rw [if_neg m, List.mem_cons, List.mem_cons]
      constructor
      · rintro ((q | q) | q)
        · exact .inr (.inl q)
        · exact .inl q
        · exact .inr (.inr q)
      · rintro (q | q | q)
        · exact .inl (.inr q)
        · exact .inl (.inl q)
        · exact .inr q
theorem onceW_mem {ks : List Str} {z : Str} : z ∈ onceW ks ↔ z ∈ ks := by
  unfold onceW
  rw [fold_mem]
  simp
theorem onceW_nodup : ∀ (ks l : List Str), l.Nodup → (ks.foldl addW l).Nodup
  | [], _, h => h
  | z :: r, l, h => by
    rw [List.foldl_cons]
    refine onceW_nodup r _ ?_
    unfold addW
    split
    · exact h
    · exact List.nodup_cons.mpr ⟨by assumption, h⟩
/-- as many as there are texts: just if all are different -/
theorem onceW_all : ∀ (ks l : List Str), (ks.foldl addW l).length = l.length + ks.length ↔ ks.Nodup ∧ ∀ z ∈ ks, z ∉ l
  | [], l => ⟨fun _ => ⟨List.Pairwise.nil, fun _ h => nomatch h⟩, fun _ => rfl⟩
  | z :: r, l => by
    have ih := onceW_all r (addW l z)
    have le := fold_len r (addW l z)
    rw [List.foldl_cons, List.length_cons, List.nodup_cons]
    unfold addW at ih le ⊢
    by_cases m : z ∈ l
    · rw [if_pos m] at le ⊢
      constructor
      · intro h; omega
      · intro h
        exact absurd m (h.2 z List.mem_cons_self)
    · rw [if_neg m] at ih le ⊢
      rw [List.length_cons] at ih le
      constructor
      · intro h
        obtain ⟨n, o⟩ := ih.mp (by omega)
        refine ⟨⟨fun q => o z q List.mem_cons_self, n⟩, fun y hy => ?_⟩
        rcases List.mem_cons.mp hy with e | e
        · rw [e]; exact m
        · exact fun q => o y e (List.mem_cons_of_mem _ q)
      · rintro ⟨⟨n1, n2⟩, o⟩
        have := ih.mpr ⟨n2, fun y hy q => (List.mem_cons.mp q).elim (fun e => n1 (e ▸ hy)) (o y (List.mem_cons_of_mem _ hy))⟩
        omega
section
variable {P : Program} {w : World} {A : Around} {E : Value → Shared → Prop} {s : Shared}
theorem setW_new {h : Heap} {a : Addr} (e : h.get? a = some (mtSet w)) : SetW P w h a [] :=
  ⟨_, #[], 0, _, e, ⟨rfl, rfl, rfl⟩, rfl, (fun _ q => absurd q (by simp)), List.Perm.nil, List.Pairwise.nil, by decide, by rfl, List.Pairwise.nil, by
    show _ ∨ (!w.params.followText "set-order") = true
    cases w.params.followText "set-order" with
    | true => exact .inl rfl
    | false => exact .inr rfl⟩
/-- the loop behind set(x), over texts -/
theorem words_loop {it st : Addr} {fp wr : List Addr} {G : Array GenState → Array GenState → Prop} {m : Nat} {Pv : Nat → Value → Prop} {At : Nat → Shared → Prop} {R : Result → Shared → Prop} (T : WalksS P w A.in1 it fp wr G m Pv At) (off : st ∉ fp) (ks : List Str) (em : m = ks.length)
    (few : ks.length + 1 < scanBound) (vals : ∀ i v, Pv i v → ∃ z t, ks[i]? = some z ∧ v = .str z t) :
    ∀ (left i : Nat) (s : Shared), m - i = left → i ≤ m → At i s → SetW P w s.heap st (onceW (ks.take i)) → (∀ q, Moved (st :: wr) G s q → SetW P w q.heap st (onceW ks) → R (.ok (.ret .none)) q) →
      codeAny (model P w) A (.builtin "set.update.loop" ⟨[.ref st, .ref it], []⟩) R s := by
  have offw : st ∉ wr := fun z => off (T.sub _ z)
  have up : ∀ b ∈ wr, b ∈ st :: wr := fun _ z => List.mem_cons_of_mem _ z
  intro left
  induction left with
  | zero =>
    intro i s e le at_ W k
    obtain rfl : i = m := by omega
    refine codeAny_builtin F.entry_set_update_loop ?_
    rw [Around.under_plainId F.plain_set_update_loop _]
    refine wpAny_bind (m := pyNext (.ref it)) (T.done s _ _ at_ fun q mv => ?_)
    have all : ks.take i = ks := List.take_of_length_le (by omega)
    rw [all] at W
    exact wpAny_pure (k q (mv.mono up) (W.move fun o e => mv.heap st o offw e))
  | succ left ih =>
    intro i s e le at_ W k
    have lt : i < m := by omega
    refine codeAny_builtin F.entry_set_update_loop ?_
    rw [Around.under_plainId F.plain_set_update_loop _]
    refine wpAny_bind (m := pyNext (.ref it)) (T.item i s _ _ lt at_ fun v q pv at2 mv => ?_)
    obtain ⟨z, t, ez, rfl⟩ := vals i v pv
    have W2 : SetW P w q.heap st (onceW (ks.take i)) := W.move fun o e => mv.heap st o offw e
    refine wpAny_bind (m := holding [Value.str z t] (setAdd st (.str z t))) (wpAny_holding ?_)
    unfold setAdd
    refine wpAny_holding (wpAny_bind ((strKind P w).pyHash (k := z) (strKind_is _ _ _ _) ?_))
    have room : (onceW (ks.take i)).length + 1 < scanBound := by
      have h1 := onceW_len (ks.take i)
      rw [List.length_take] at h1
      omega
    refine setW_add (s := { q with toks := q.toks + 1 }) W2 room fun b h2 sb W3 => ?_
    have nx : (if z ∈ onceW (ks.take i) then onceW (ks.take i) else z :: onceW (ks.take i)) = onceW (ks.take (i + 1)) := by
      have e1 : ks.take (i + 1) = ks.take i ++ [z] := by rw [List.take_add_one, ez]; rfl
      rw [e1]
      unfold onceW
      rw [List.foldl_append]
      rfl
    rw [nx] at W3
    have still : ∀ c, c ≠ st → ∀ o, q.heap.get? c = some o → h2.get? c = some o := fun c n o e => by rw [sb.2 c n]; exact e
    refine wpAny_pure ⟨plainId_quiet F.plain_set_update_loop _, ih (i + 1) _ (by omega) lt (T.frame _ q _ _ at2 (Nat.le_succ _) fun c hc o e => still c (fun n => off (n ▸ hc)) o e) W3 fun y mv2 Wy => k y ?_ Wy⟩
    exact Moved.trans T.gtrans ((mv.mono up).then_heap (Nat.le_succ _) fun c o hc e => still c (fun n => hc (n ▸ List.mem_cons_self)) o e) mv2
end
section
variable {P : Program} {w : World} {A : Around} {E : Value → Shared → Prop} {s : Shared}
/-- what stands behind set(x) of texts -/
abbrev WordsDone (P : Program) (w : World) (s : Shared) (ks : List Str) (s₂ : Shared) : Prop :=
  ∃ h' tk, s₂ = { s with heap := h', toks := tk } ∧ SetW P w h' s.heap.objs.size (onceW ks) ∧ ∀ b o, s.heap.get? b = some o → h'.get? b = some o
set_option maxHeartbeats 8000000 in
theorem set_of_words {l : Addr} {items : Array Value} (ks : List Str) {Q : Value → Shared → Prop} (hh : A.handled = none) (hl : s.heap.IsList l items) (hsz : items.size = ks.length) (hit : ∀ (i : Nat) (v : Value), items[i]? = some v → ∃ z t, ks[i]? = some z ∧ v = .str z t) (hb : ks.length + 1 < scanBound)
    (h : ∀ s₂, WordsDone P w s ks s₂ → Q (.ref s.heap.objs.size) s₂) : wpAny (model P w) A (call (.type "set") [.ref l]) Q E s := by
  obtain ⟨c, tl, hmro⟩ := F.called_set.mro
  have m1 := F.called_set.made
  have m2 := F.called_set.sub
  have m3 := F.called_set.notType
  have m4 := F.called_set.canCreate
  have m5 := F.typeCall_set_1 (.ref l)
  refine wpAny_call (codeAny_of_tree (show wpAny _ _ (callAny (.type "set") _) _ _ _ from wpAny_pure ⟨Code.quiet_builtin _ (by decide +kernel), codeAny_builtin F.entry_type_call ?_⟩))
  rw [Around.under_plain (weight_type_call_type "set" [.ref l] []) rfl]
  repeat (any_goals (first | assumption | wp_step))
  refine codeAny_mono (code_set_led1 (.ref l) (E := E) (Q₁ := fun obj s₁ => obj = .ref s.heap.objs.size ∧ s₁ = { s with heap := s.heap.push (mtSet w) }) ⟨rfl, rfl⟩) fun r s₁ hr => ?_
  match r, hr with
  | .error e, hr => exact hr
  | .ok (.ret obj), hr =>
    obtain ⟨rfl, rfl⟩ := hr
    have new := mt_at w s.heap
    have ty : Shared.TypeIs { s with heap := s.heap.push (mtSet w) } (.ref s.heap.objs.size) "set" := ⟨_, new, rfl⟩
    have m6 := F.called_set.init.lookup
    have m7 := F.called_set.init.bind (.ref s.heap.objs.size)
    repeat (any_goals (first | assumption | wp_step))
    refine codeAny_mono (codeAny_call_builtin (R := wants (fun r s₂ => r = .none ∧ WordsDone P w s ks s₂) E) F.called_set.init.plain F.entry_set_init (check_set_init_1 ty ?_)) fun r₂ s₂ hr₂ => ?_
    · obtain ⟨⟨ocls, odict, odata, oslots⟩, hol, hcl, nl, hdl⟩ := hl
      simp only at hcl hdl
      subst hcl; subst hdl
      have lt : l < s.heap.objs.size := Heap.lt_size hol
      have old : (s.heap.push (mtSet w)).get? l = some { cls := .type "list", dict := odict, data := .seq items nl, slots := oslots } := Heap.get?_push_of_some _ hol
      have il : (s.heap.push (mtSet w)).IsList l items := ⟨_, old, rfl, nl, rfl⟩
      have n1 := F.sub_list_set
      have n2 := F.sub_list_frozenset
      have n3 : (Value.type "list" == Value.type "dict") = false := by decide
      have sz : (s.heap.push (mtSet w)).objs.size = s.heap.objs.size + 1 := Heap.size_push ..
      unfold Builtin.«set.__init__» noKeywords Builtin.Frozenset.updateFrom
      generalize hPI : pyIter = PI
      wp_walk
      subst hPI
      refine wpAny_pyIter_list il (wpAny_bind (wpAny_runValue ?_))
      have apart : l ≠ (s.heap.push (mtSet w)).objs.size := by rw [sz]; exact Nat.ne_of_lt (Nat.lt_succ_of_lt lt)
      refine words_loop (P := P) (w := w) ((Walks.list (show A.in1.in1.in1.handled = none by simp [hh]) _ l apart items).toS) (st := s.heap.objs.size) ?_ ks hsz hb hit (items.size - 0) 0 _ (by omega) (Nat.zero_le _)
        ⟨⟨_, Heap.get?_push_size _ rfl, rfl, rfl⟩, il.push _⟩ (setW_new (Heap.get?_push_of_some _ new)) fun s' hm hS' => ?_
      · rw [sz]
        intro z
        rcases List.mem_cons.mp z with z | z
        · exact absurd z (Nat.ne_of_lt (Nat.lt_succ_self _))
        · rcases List.mem_cons.mp z with z | z
          · exact absurd z (Nat.ne_of_gt lt)
          · cases z
      · obtain ⟨h', g2, d', tk', os'⟩ := s'
        obtain rfl : g2 = s.gens := hm.gens
        obtain rfl : d' = s.drawn := hm.drawn
        obtain rfl : os' = s.os := hm.os
        refine wpAny_pure (show wpAny _ _ (ret Value.none) _ _ _ from wpAny_pure ⟨rfl, h', tk', rfl, hS', fun b o e => ?_⟩)
        have lb : b < s.heap.objs.size := Heap.lt_size e
        refine hm.heap b o (fun z => ?_) (Heap.get?_push_of_some _ (Heap.get?_push_of_some _ e))
        rcases List.mem_cons.mp z with z | z
        · exact absurd z (Nat.ne_of_lt lb)
        · rcases List.mem_cons.mp z with z | z
          · rw [sz] at z
            exact absurd z (Nat.ne_of_lt (Nat.lt_succ_of_lt lb))
          · cases z
    · match r₂, hr₂ with
      | .error e, hr₂ => exact hr₂
      | .ok (.ret r), hr₂ =>
        obtain ⟨rfl, done⟩ := hr₂
        repeat (any_goals (first | assumption | wp_step))
        exact h _ done
end
end Jg

/-! set(words), sorted(set of words), len(set of words) as rules -/
namespace Jg
open PySem PySem.Spec PyProof.Rows L2
/-- the set of the texts zs at a -/
def SetWO (P : Program) (w : World) (a : Addr) (zs : List Str) : HO := .ext fun h => SetW P w h a zs
theorem setW_ok {w : World} {P : Program} {H : Hp} {h : Heap} {a : Addr} {zs : List Str} (R : SetW P w h a zs) : ObjOk P w H h a (SetWO P w a zs) := by
  have ⟨o, _, _, _, ho, _⟩ := R
  exact ⟨R, ⟨o, ho⟩, fun h1 h2 p k => SetW.move p k⟩
section
variable {X : Cx}
theorem setW_get {pins : List (Addr × Obj)} {σ : L2.St} {H : Hp} {s : Shared} {a : Addr} {zs : List Str} (I : Inv X pins σ H s) (e : H a = some (SetWO X.prog X.w a zs)) : SetW X.prog X.w s.heap a zs := (I.hok a _ e).1
/-- set(xs) of a list of texts -/
def rSetW (X : Cx) : List V → Hp → VK → Prop := fun xs H Q => ∃ (a : Addr) (ks : List Str), xs = [.ref a] ∧ SqL X.K H a (ks.map V.str) ∧ ks.length + 1 < scanBound ∧ ∀ p, H p = none → Q (.ref p) (upd H p (SetWO X.prog X.w p (onceW ks)))
theorem strs_at {ks : List Str} : ∀ {us : List Value}, Vals (ks.map V.str) us → us.length = ks.length ∧ ∀ (i : Nat) (v : Value), us[i]? = some v → ∃ z t, ks[i]? = some z ∧ v = .str z t := by
  induction ks with
  | nil =>
    intro us r
    cases r
    exact ⟨rfl, fun i v h => by simp at h⟩
  | cons z ks ih =>
    intro us r
    rw [List.map_cons] at r
    cases r with
    | cons r1 r2 =>
      obtain ⟨t, e⟩ := r1
      obtain ⟨h1, h2⟩ := ih r2
      refine ⟨by rw [List.length_cons, List.length_cons, h1], fun i v h => ?_⟩
      cases i with
      | zero => exact ⟨z, t, rfl, by rw [← e]; exact (Option.some.inj h).symm⟩
      | succ i => exact h2 i v h
theorem cr_setW (hc : X.calm = true) : CallR X (.type "set") (rSetW X) := by
  intro pins s σ H xs us Q I r h
  obtain ⟨a, ks, rfl, hs, few, q⟩ := h
  obtain ⟨u, rfl, ru⟩ := vals1 r
  cases ru
  obtain ⟨its, rv, p, _⟩ := I.list hs
  obtain ⟨ln, at_⟩ := strs_at rv
  refine set_of_words ks (I.ok.hd hc) p.isList (by simpa using ln) (fun i v h => at_ i v (by simpa using h)) few fun s₂ ⟨h', tk, e, R, k⟩ => ?_
  subst e
  exact ⟨.ref s.heap.objs.size, _, I.laid (t' := tk) k (Nat.le_refl _) (setW_ok R), rfl, q _ (I.hok.fresh (Nat.le_refl _))⟩
end
section
variable {P : Program} {w : World} {A : Around} {E : Value → Shared → Prop} {s : Shared} {a : Addr} {zs : List Str}
theorem strs_of : ∀ l : List Value, (∀ v ∈ l, ∃ z t, v = Value.str z t) → ∃ ys : List Str, StrsAre l ys ∧ ∀ f : Value → Str, (∀ z t, f (.str z t) = z) → l.map f = ys
  | [], _ => ⟨[], .nil, fun _ _ => rfl⟩
  | v :: l, h => by
    obtain ⟨z, t, e⟩ := h v List.mem_cons_self
    obtain ⟨ys, h1, h2⟩ := strs_of l fun u hu => h u (List.mem_cons_of_mem _ hu)
    subst e
    exact ⟨z :: ys, .cons z t h1, fun f hf => by rw [List.map_cons, hf, h2 f hf]⟩
def txtOf (v : Value) : Str := match v with | .str z _ => z | _ => Str.empty
theorem sorted_words {Q : Value → Shared → Prop} (R : SetW P w s.heap a zs) (hh : A.handled = none) (few : zs.length < 64)
    (k : ∀ s' p (out : Array Value) (c : Nat) (ys : List Str), (∀ b o, s.heap.get? b = some o → s'.heap.get? b = some o) → s'.gens = s.gens → s'.os = s.os → s.heap.objs.size ≤ p → s'.heap.get? p = some (seqObj "list" out c) → StrsAre out.toList ys → ys.Perm zs → sortedS ys = true → Q (.ref p) s') :
    wpAny (model P w) A (call (.builtin "sorted") [.ref a]) Q E s := by
  obtain ⟨o, es, ep, t, at_, ex, dt, gd, pm, nd, fw, ft, ri, ld⟩ := R
  have small : es.size = zs.length := by
    have q := pm.length_eq
    rw [List.length_map, Array.length_toList] at q
    exact q
  refine Calls.call_function_entry kind_sorted plain_sorted entry_sorted (args_sorted1 _) ?_
  unfold Builtin.«sorted»
  refine wpAny_bind (m := checkCount "sorted" 1 1 _) (wpAny_pure (wpAny_bind (collect_set (A := A.in1) hh ⟨o, at_, ex.1, dt⟩ ft (by rw [small]; exact fw) ri ld fun s1 vs k1 up g1 o1 perm => ?_)))
  have len : vs.length = zs.length := by rw [perm.length_eq, List.length_map, Array.length_toList, small]
  obtain ⟨ys, sa, ym⟩ := strs_of vs fun v hv => by
    obtain ⟨e, he, q⟩ := List.mem_map.mp (perm.mem_iff.mp hv)
    obtain ⟨z, tk, e1, _⟩ := gd e he
    exact ⟨z, tk, by rw [← q]; exact e1⟩
  have py : ys.Perm zs := by
    have q := perm.map txtOf
    rw [ym txtOf fun _ _ => rfl, List.map_map] at q
    exact q.trans pm
  refine wpAny_bind (wpAny_newList ?_ (by rw [len, sizeLine_eq]; omega))
  have new : (s1.heap.push (seqObj "list" vs.toArray 0)).get? s1.heap.objs.size = some (seqObj "list" vs.toArray 0) := Heap.get?_push_size _ rfl
  refine wpAny_bind (wpAny_holding (wpAny_call_entry slot_list_sort ⟨_, new, rfl⟩ entry_list_sort
    (list_sort_treeK strKind_oneLt new sa.keysOf (fun v₁ v₂ rest e => keyKind_strs (by rw [← e]; exact sa)) (by rw [len]; exact few) fun st' hp hs => ⟨_, rfl, ?_⟩) (args_list_sort _)))
  obtain ⟨ss, g2, g3, g4⟩ := sorted_out_str sa hp hs
  obtain ⟨c, hc⟩ := sortedHeap_at (vs := vs) (out := (arrOf st').map (·.2)) new
  refine wpAny_pure ⟨_, rfl, k _ s1.heap.objs.size _ c ss (fun b u e => ?_) g1 o1 up hc g2 (g3.trans py) g4⟩
  have q := k1 b u e
  have lt := Heap.lt_size q
  show (sortedHeap (s1.heap.push (seqObj "list" vs.toArray 0)) s1.heap.objs.size vs _).get? b = some u
  rw [sortedHeap_old (Nat.ne_of_lt lt) (by rw [Heap.size_push]; exact Nat.lt_succ_of_lt lt)]
  exact Heap.get?_push_of_some _ q
end
/-- sorted(words) of a set -/
def rSortW (X : Cx) : List V → Hp → VK → Prop := fun vs H Q => ∃ (a : Addr) (zs : List Str), vs = [V.ref a] ∧ H a = some (SetWO X.prog X.w a zs) ∧ zs.length < 64 ∧ ∀ (ys : List Str) (p : Addr), ys.Perm zs → sortedS ys = true → H p = none → Q (.ref p) (upd H p (.lst (ys.map V.str)))
theorem cr_sortW {X : Cx} (hc : X.calm = true) : CallR X (.builtin "sorted") (rSortW X) := by
  intro pins s σ H vs us Q I r h
  obtain ⟨a, zs, rfl, ha, few, q⟩ := h
  have R := setW_get I ha
  rw [Vals.ref1 r]
  refine sorted_words R (I.ok.hd hc) few fun s' p out c ys k g o up e sa pm so => ?_
  have len : (ys.map V.str).length ≤ sizeLine := by rw [List.length_map, pm.length_eq, sizeLine_eq]; omega
  have nw : H p = none := I.hok.fresh up
  have J : Inv X pins σ (upd H p (.lst (ys.map V.str))) { s with heap := s'.heap, gens := s'.gens, drawn := s'.drawn, toks := s'.toks } :=
    I.call (ch := []) (Un.laid k up nw) (I.hok.laid k up ⟨len, out.toList, c, vals_of_strs sa, e⟩) (by rw [g]; exact I.bare) fun _ z => nomatch z
  have es : s' = { s with heap := s'.heap, gens := s'.gens, drawn := s'.drawn, toks := s'.toks } := by
    cases s'
    cases s
    cases o
    rfl
  rw [es]
  exact ⟨.ref p, _, J, rfl, q ys p pm so nw⟩
/-- len of a set of texts -/
def rLenW (X : Cx) : List V → Hp → VK → Prop := fun xs H Q => ∃ (a : Addr) (zs : List Str), xs = [.ref a] ∧ H a = some (SetWO X.prog X.w a zs) ∧ Q (.int zs.length) H
theorem call_lenW {X : Cx} : CallR X (.builtin "len") (rLenW X) := by
  intro pins s σ H xs us Q I r h
  obtain ⟨a, zs, rfl, ha, q⟩ := h
  rw [Vals.ref1 r]
  obtain ⟨o, es, ep, t, at_, ex, dt, gd, pm, nd, fw, ft, _⟩ := setW_get I ha
  have n : es.size = zs.length := by
    have z := pm.length_eq
    rw [List.length_map, Array.length_toList] at z
    exact z
  have small : scanBound < 2 ^ 62 := by decide
  have e : ((es.size : Nat) : Int) = ((zs.length : Nat) : Int) := by rw [n]
  exact PySem.call_len_set at_ ex dt ft (by rw [n]; omega) (e ▸ ⟨.int zs.length, H, I.tok _, ⟨_, rfl⟩, q⟩)
end Jg

/-! set(words) of a tuple of texts -/
namespace Jg
open PySem PySem.Spec PyProof.Rows L2
section
variable {P : Program} {w : World} {A : Around} {E : Value → Shared → Prop} {s : Shared}
set_option maxHeartbeats 8000000 in
theorem set_of_wordsT {l : Addr} {items : Array Value} (ks : List Str) {Q : Value → Shared → Prop} (hh : A.handled = none) (hl : s.heap.IsTuple l items) (hsz : items.size = ks.length) (hit : ∀ (i : Nat) (v : Value), items[i]? = some v → ∃ z t, ks[i]? = some z ∧ v = .str z t) (hb : ks.length + 1 < scanBound)
    (h : ∀ s₂, WordsDone P w s ks s₂ → Q (.ref s.heap.objs.size) s₂) : wpAny (model P w) A (call (.type "set") [.ref l]) Q E s := by
  obtain ⟨c, tl, hmro⟩ := F.called_set.mro
  have m1 := F.called_set.made
  have m2 := F.called_set.sub
  have m3 := F.called_set.notType
  have m4 := F.called_set.canCreate
  have m5 := F.typeCall_set_1 (.ref l)
  refine wpAny_call (codeAny_of_tree (show wpAny _ _ (callAny (.type "set") _) _ _ _ from wpAny_pure ⟨Code.quiet_builtin _ (by decide +kernel), codeAny_builtin F.entry_type_call ?_⟩))
  rw [Around.under_plain (weight_type_call_type "set" [.ref l] []) rfl]
  repeat (any_goals (first | assumption | wp_step))
  refine codeAny_mono (code_set_led1 (.ref l) (E := E) (Q₁ := fun obj s₁ => obj = .ref s.heap.objs.size ∧ s₁ = { s with heap := s.heap.push (mtSet w) }) ⟨rfl, rfl⟩) fun r s₁ hr => ?_
  match r, hr with
  | .error e, hr => exact hr
  | .ok (.ret obj), hr =>
    obtain ⟨rfl, rfl⟩ := hr
    have new := mt_at w s.heap
    have ty : Shared.TypeIs { s with heap := s.heap.push (mtSet w) } (.ref s.heap.objs.size) "set" := ⟨_, new, rfl⟩
    have m6 := F.called_set.init.lookup
    have m7 := F.called_set.init.bind (.ref s.heap.objs.size)
    repeat (any_goals (first | assumption | wp_step))
    refine codeAny_mono (codeAny_call_builtin (R := wants (fun r s₂ => r = .none ∧ WordsDone P w s ks s₂) E) F.called_set.init.plain F.entry_set_init (check_set_init_1 ty ?_)) fun r₂ s₂ hr₂ => ?_
    · obtain ⟨⟨ocls, odict, odata, oslots⟩, hol, hcl, nl, hdl⟩ := hl
      simp only at hcl hdl
      subst hcl; subst hdl
      have lt : l < s.heap.objs.size := Heap.lt_size hol
      have old : (s.heap.push (mtSet w)).get? l = some { cls := .type "tuple", dict := odict, data := .seq items nl, slots := oslots } := Heap.get?_push_of_some _ hol
      have il : (s.heap.push (mtSet w)).IsTuple l items := ⟨_, old, rfl, nl, rfl⟩
      have n1 := F.sub_tuple_set
      have n2 := F.sub_tuple_frozenset
      have n3 : (Value.type "tuple" == Value.type "dict") = false := by decide
      have sz : (s.heap.push (mtSet w)).objs.size = s.heap.objs.size + 1 := Heap.size_push ..
      unfold Builtin.«set.__init__» noKeywords Builtin.Frozenset.updateFrom
      generalize hPI : pyIter = PI
      wp_walk
      subst hPI
      refine wpAny_pyIter_tuple il (wpAny_bind (wpAny_runValue ?_))
      have apart : l ≠ (s.heap.push (mtSet w)).objs.size := by rw [sz]; exact Nat.ne_of_lt (Nat.lt_succ_of_lt lt)
      refine words_loop (P := P) (w := w) ((Walks.tuple (show A.in1.in1.in1.handled = none by simp [hh]) _ l apart items).toS) (st := s.heap.objs.size) ?_ ks hsz hb hit (items.size - 0) 0 _ (by omega) (Nat.zero_le _)
        ⟨⟨_, Heap.get?_push_size _ rfl, rfl, rfl⟩, il.push _⟩ (setW_new (Heap.get?_push_of_some _ new)) fun s' hm hS' => ?_
      · rw [sz]
        intro z
        rcases List.mem_cons.mp z with z | z
        · exact absurd z (Nat.ne_of_lt (Nat.lt_succ_self _))
        · rcases List.mem_cons.mp z with z | z
          · exact absurd z (Nat.ne_of_gt lt)
          · cases z
      · obtain ⟨h', g2, d', tk', os'⟩ := s'
        obtain rfl : g2 = s.gens := hm.gens
        obtain rfl : d' = s.drawn := hm.drawn
        obtain rfl : os' = s.os := hm.os
        refine wpAny_pure (show wpAny _ _ (ret Value.none) _ _ _ from wpAny_pure ⟨rfl, h', tk', rfl, hS', fun b o e => ?_⟩)
        have lb : b < s.heap.objs.size := Heap.lt_size e
        refine hm.heap b o (fun z => ?_) (Heap.get?_push_of_some _ (Heap.get?_push_of_some _ e))
        rcases List.mem_cons.mp z with z | z
        · exact absurd z (Nat.ne_of_lt lb)
        · rcases List.mem_cons.mp z with z | z
          · rw [sz] at z
            exact absurd z (Nat.ne_of_lt (Nat.lt_succ_of_lt lb))
          · cases z
    · match r₂, hr₂ with
      | .error e, hr₂ => exact hr₂
      | .ok (.ret r), hr₂ =>
        obtain ⟨rfl, done⟩ := hr₂
        repeat (any_goals (first | assumption | wp_step))
        exact h _ done
end
/-- set(x) of a list or a tuple of texts -/
def rSetW2 (X : Cx) : List V → Hp → VK → Prop := fun xs H Q => ∃ (a : Addr) (ks : List Str), xs = [.ref a] ∧ (SqL X.K H a (ks.map V.str) ∨ SqT X.K H a (ks.map V.str)) ∧ ks.length + 1 < scanBound ∧ ∀ p, H p = none → Q (.ref p) (upd H p (SetWO X.prog X.w p (onceW ks)))
theorem cr_setW2 {X : Cx} (hc : X.calm = true) : CallR X (.type "set") (rSetW2 X) := by
  intro pins s σ H xs us Q I r h
  obtain ⟨a, ks, rfl, hs | hs, few, q⟩ := h
  · exact cr_setW hc pins s σ H _ us Q I r ⟨a, ks, rfl, hs, few, q⟩
  · obtain ⟨u, rfl, ru⟩ := vals1 r
    cases ru
    obtain ⟨its, rv, p, _⟩ := I.tuple hs
    obtain ⟨ln, at_⟩ := strs_at rv
    refine set_of_wordsT ks (I.ok.hd hc) p (by simpa using ln) (fun i v h => at_ i v (by simpa using h)) few fun s₂ ⟨h', tk, e, R, k⟩ => ?_
    subst e
    exact ⟨.ref s.heap.objs.size, _, I.laid (t' := tk) k (Nat.le_refl _) (setW_ok R), rfl, q _ (I.hok.fresh (Nat.le_refl _))⟩
end Jg

/-! set(d) of a dict whose keys are texts -/
namespace Jg
open PySem PySem.Spec PyProof.Rows L2
theorem above100 : ∀ n : Fin 101, SetTable.sizeAbove ((0 + n.val) * 2) ≤ sizeLine := by decide +kernel
theorem none_of {n : Nat} : (List.range n).filterMap (fun j => ((Array.replicate n (none : Option Nat)).getD j none).map (j, ·)) = [] := by
  rw [List.filterMap_eq_nil_iff]
  intro j hj
  have h : (Array.replicate n (none : Option Nat)).getD j none = none := by
    rw [Array.getD_eq_getD_getElem?, Array.getElem?_replicate]
    split <;> rfl
  rw [h]
  rfl
theorem laid_none (m f v : Nat) (led pl : Bool) : SetTable.laid m f v led pl #[] = some ({ mask := m, place := #[], dummies := #[], finger := f, led := led, moves := v, plain := pl }, #[]) := by
  unfold SetTable.laid
  have e : SetTable.layClean m #[] = some (Array.replicate (m + 1) none) := rfl
  rw [e]
  show some (SetTable.mk m ((List.range (m + 1)).filterMap (fun j => ((Array.replicate (m + 1) (none : Option Nat)).getD j none).map (j, ·)) |>.map (·.1)).toArray #[] f led v pl, ((List.range (m + 1)).filterMap (fun j => ((Array.replicate (m + 1) (none : Option Nat)).getD j none).map (j, ·)) |>.map (·.2)).toArray) = _
  rw [none_of]
  rfl
section
variable {P : Program} {w : World} {A : Around} {E : Value → Shared → Prop} {s : Shared} {a : Addr}
theorem setW_room {n : Nat} {Q : Unit → Shared → Prop} (R : SetW P w s.heap a []) (few : n ≤ 100) (k : ∀ h', Heap.SameBut a s.heap h' → SetW P w h' a [] → Q () { s with heap := h' }) : wpAny (model P w) A (setRoomFor a n) Q E s := by
  obtain ⟨o, es, ep, t, at_, ex, dt, gd, pm, nd, fw, ft, ri, ld⟩ := id R
  have es0 : es = #[] := by
    have q := pm.length_eq
    rw [List.length_map, Array.length_toList] at q
    exact Array.eq_empty_of_size_eq_zero q
  subst es0
  have pl : t.place.size = 0 := by
    have q := ft
    unfold SetTable.fits at q
    rw [Bool.and_eq_true, beq_iff_eq] at q
    exact q.1
  unfold setRoomFor
  refine wpAny_bind (wpAny_setState_of at_ dt ft ?_)
  dsimp only
  unfold SetTable.roomFor
  split
  · rename_i wanted hw
    split at hw
    · obtain rfl := Option.some.inj hw
      rw [pl]
      rw [setRelay_eq]
      refine wpAny_bind (wpAny_setState_of at_ dt ft ?_)
      dsimp only
      refine wp_if_neg (Nat.not_lt.mpr (above100 ⟨n, by omega⟩)) ?_
      try refine wpAny_bind (wpAny_pure ?_)
      unfold SetTable.relaid
      rw [Array.map_empty, laid_none]
      refine wpAny_bind (wpAny_pure ?_)
      have ft2 : (SetTable.mk (SetTable.sizeAbove ((0 + n) * 2) - 1) #[] #[] t.finger t.led (t.movedTo (SetTable.sizeAbove ((0 + n) * 2) - 1)) t.plain).fits 0 = true := by
        unfold SetTable.fits SetTable.fill
        simp
      refine wpAny_storeSet_of at_ dt (k _ (Heap.SameBut.update _ a _) ⟨_, #[], _, _, store_at (es' := #[]) at_ dt, ex, rfl, gd, pm, nd, fw, ft2, List.Pairwise.nil, ld⟩) (Nat.zero_le _)
    · cases hw
  · exact wpAny_pure (k s.heap (Heap.SameBut.refl a s.heap) R)
theorem pairs_at {ks : List Str} : ∀ {l : List DictEntry} {kvs : List (Key × Value)}, Pairs (mixKind P w) l kvs → kvs.map (·.1) = ks.map Sum.inr → ∀ (i : Nat) (e : DictEntry), l[i]? = some e → ∃ z t, ks[i]? = some z ∧ e.key = .str z t := by
  induction ks with
  | nil =>
    intro l kvs r e i x h
    have : kvs = [] := List.map_eq_nil_iff.mp e
    subst this
    cases r
    simp at h
  | cons z ks ih =>
    intro l kvs r e i x h
    cases r with
    | nil => cases e
    | cons r1 r2 r3 =>
      rw [List.map_cons, List.map_cons] at e
      obtain ⟨e1, e2⟩ := List.cons.inj e
      cases i with
      | zero =>
        obtain rfl := Option.some.inj h
        rw [e1] at r1
        rcases keyIs_shape (k := Sum.inr z) r1 with ⟨j, t, a1, a2⟩ | ⟨y, t, a1, a2⟩
        · cases a1
        · obtain rfl := Sum.inr.inj a1
          exact ⟨z, t, rfl, a2⟩
      | succ i => exact ih r3 e2 i x h
set_option maxHeartbeats 8000000 in
theorem set_of_dict {d : Addr} {kvs : List (Key × Value)} (ks : List Str) {Q : Value → Shared → Prop} (hd : s.heap.DictOf (mixKind P w) d kvs) (nm : (d == sysModules) = false) (hk : kvs.map (·.1) = ks.map Sum.inr) (few : ks.length ≤ 100)
    (h : ∀ s₂, WordsDone P w s ks s₂ → Q (.ref s.heap.objs.size) s₂) : wpAny (model P w) A (call (.type "set") [.ref d]) Q E s := by
  obtain ⟨c, tl, hmro⟩ := F.called_set.mro
  have m1 := F.called_set.made
  have m2 := F.called_set.sub
  have m3 := F.called_set.notType
  have m4 := F.called_set.canCreate
  have m5 := F.typeCall_set_1 (.ref d)
  refine wpAny_call (codeAny_of_tree (show wpAny _ _ (callAny (.type "set") _) _ _ _ from wpAny_pure ⟨Code.quiet_builtin _ (by decide +kernel), codeAny_builtin F.entry_type_call ?_⟩))
  rw [Around.under_plain (weight_type_call_type "set" [.ref d] []) rfl]
  repeat (any_goals (first | assumption | wp_step))
  refine codeAny_mono (code_set_led1 (.ref d) (E := E) (Q₁ := fun obj s₁ => obj = .ref s.heap.objs.size ∧ s₁ = { s with heap := s.heap.push (mtSet w) }) ⟨rfl, rfl⟩) fun r s₁ hr => ?_
  match r, hr with
  | .error e, hr => exact hr
  | .ok (.ret obj), hr =>
    obtain ⟨rfl, rfl⟩ := hr
    have new := mt_at w s.heap
    have ty : Shared.TypeIs { s with heap := s.heap.push (mtSet w) } (.ref s.heap.objs.size) "set" := ⟨_, new, rfl⟩
    have m6 := F.called_set.init.lookup
    have m7 := F.called_set.init.bind (.ref s.heap.objs.size)
    repeat (any_goals (first | assumption | wp_step))
    refine codeAny_mono (codeAny_call_builtin (R := wants (fun r s₂ => r = .none ∧ WordsDone P w s ks s₂) E) F.called_set.init.plain F.entry_set_init (check_set_init_1 ty ?_)) fun r₂ s₂ hr₂ => ?_
    · obtain ⟨od, es, ep, at_, ⟨c1, c2, c3⟩, dd, keys, prs, nd⟩ := hd
      obtain ⟨ocls, odict, odata, oslots⟩ := od
      simp only at c1 c2 c3 dd
      subst c1; subst c2; subst c3; subst dd
      have lt : d < s.heap.objs.size := Heap.lt_size at_
      have old : (s.heap.push (mtSet w)).get? d = some { cls := .type "dict", dict := none, data := .dict es ep, slots := #[] } := Heap.get?_push_of_some _ at_
      have n1 := F.sub_dict_set
      have n2 := F.sub_dict_frozenset
      have sz : (s.heap.push (mtSet w)).objs.size = s.heap.objs.size + 1 := Heap.size_push ..
      unfold Builtin.«set.__init__» noKeywords Builtin.Frozenset.updateFrom
      generalize hRF : setRoomFor = RF
      wp_walk
      subst hRF
      have size_ks : es.size = ks.length := by
        have q := congrArg List.length hk
        rw [List.length_map, List.length_map, ← prs.length, Array.length_toList] at q
        exact q
      have W0 : SetW P w (s.heap.push (mtSet w)) s.heap.objs.size [] := setW_new new
      have apart : d ≠ s.heap.objs.size := Nat.ne_of_lt lt
      refine setW_room (s := { s with heap := s.heap.push (mtSet w) }) W0 (by omega) fun h1 sb1 W1 => ?_
      have old1 : h1.get? d = some { cls := .type "dict", dict := none, data := .dict es ep, slots := #[] } := by
        rw [sb1.2 d apart]; exact old
      have keep1 : ∀ b o, s.heap.get? b = some o → h1.get? b = some o := fun b o e => by
        rw [sb1.2 b (Nat.ne_of_lt (Heap.lt_size e))]; exact Heap.get?_push_of_some _ e
      refine wpAny_bind (wpAny_dictEntries old1 rfl ?_)
      refine wpAny_bind (SeqAt.wpAny_forIn_span 0 es.size _ (fun i _ q => ∃ h', q = { s with heap := h' } ∧ SetW P w h' s.heap.objs.size (onceW (ks.take i)) ∧ h'.get? d = some { cls := .type "dict", dict := none, data := .dict es ep, slots := #[] } ∧ ∀ b o, s.heap.get? b = some o → h'.get? b = some o) _ ?_ ?_ _ ⟨h1, rfl, W1, old1, keep1⟩)
      · rintro i ⟨⟩ q _ hi ⟨h', rfl, W, hd', keep'⟩
        refine wpAny_bind (wpAny_dictEntries hd' rfl ?_)
        have hi2 : i < es.toList.length := by rw [Array.length_toList]; exact hi
        have he : es[i]? = some es[i] := Array.getElem?_eq_getElem hi
        rw [he]
        dsimp only
        obtain ⟨z, tk, ez, ek⟩ := pairs_at prs hk i es[i] (by rw [Array.getElem?_toList]; exact he)
        obtain ⟨k0, hk1, hk2⟩ := keys es[i] (by simp)
        rw [ek] at hk1
        have hz : es[i].hash = (strKind P w).hash z := by
          rcases keyIs_shape (k := k0) hk1 with ⟨j, t, a1, a2⟩ | ⟨y, t, a1, a2⟩
          · cases a2
          · cases a2
            rw [hk2, a1]
            rfl
        rw [ek, hz]
        have room : (onceW (ks.take i)).length + 1 < scanBound := by
          have h1 := onceW_len (ks.take i)
          have h2 : (100 : Nat) + 1 < scanBound := by decide
          rw [List.length_take] at h1
          omega
        refine wpAny_bind (wpAny_holding (setW_add (s := { s with heap := h' }) W room fun b h2 sb W3 => ?_))
        have nx : (if z ∈ onceW (ks.take i) then onceW (ks.take i) else z :: onceW (ks.take i)) = onceW (ks.take (i + 1)) := by
          have e1 : ks.take (i + 1) = ks.take i ++ [z] := by rw [List.take_add_one, ez]; rfl
          rw [e1]
          unfold onceW
          rw [List.foldl_append]
          rfl
        rw [nx] at W3
        have hd2 : h2.get? d = some { cls := .type "dict", dict := none, data := .dict es ep, slots := #[] } := by
          rw [sb.2 d apart]; exact hd'
        refine wpAny_bind (wpAny_dictEpoch hd2 rfl ?_)
        refine wp_if_neg (by simp) (wpAny_pure ⟨h2, rfl, W3, hd2, fun b o e => ?_⟩)
        rw [sb.2 b (Nat.ne_of_lt (Heap.lt_size e))]
        exact keep' b o e
      · rintro ⟨⟩ q ⟨h', rfl, W, hd', keep'⟩
        have all : ks.take (max 0 es.size) = ks := List.take_of_length_le (by omega)
        rw [all] at W
        exact wpAny_pure (wpAny_pure ⟨rfl, h', _, rfl, W, keep'⟩)
    · match r₂, hr₂ with
      | .error e, hr₂ => exact hr₂
      | .ok (.ret r), hr₂ =>
        obtain ⟨rfl, done⟩ := hr₂
        repeat (any_goals (first | assumption | wp_step))
        exact h _ done
end
section
variable {X : Cx}
/-- set(d) of a dict of texts -/
def rSetWD (X : Cx) : List V → Hp → VK → Prop := fun xs H Q => ∃ (a : Addr) (kvs : List (Key × V)) (ks : List Str), xs = [.ref a] ∧ H a = some (.dK kvs) ∧ kvs.map (·.1) = ks.map Sum.inr ∧ ks.length ≤ 100 ∧ ∀ p, H p = none → Q (.ref p) (upd H p (SetWO X.prog X.w p (onceW ks)))
theorem cr_setWD : CallR X (.type "set") (rSetWD X) := by
  intro pins s σ H xs us Q I r h
  obtain ⟨a, kvs, ks, rfl, hs, hk, few, q⟩ := h
  obtain ⟨u, rfl, ru⟩ := vals1 r
  cases ru
  obtain ⟨_, nm, vs, rel, dd⟩ := dk_of I.hok hs
  refine set_of_dict ks dd nm (by rw [← rel.keys]; exact hk) few fun s₂ ⟨h', tk, e, R, k⟩ => ?_
  subst e
  exact ⟨.ref s.heap.objs.size, _, I.laid (t' := tk) k (Nat.le_refl _) (setW_ok R), rfl, q _ (I.hok.fresh (Nat.le_refl _))⟩
/-- dict(d): a copy, of a dict that may be under a walk -/
def rCopyD : List V → Hp → VK → Prop := fun xs H Q => ∃ (a : Addr) (kvs : List (Key × V)), xs = [.ref a] ∧ Rd H a (.dK kvs) ∧ ∀ p, H p = none → Q (.ref p) (upd H p (.dK kvs))
theorem cr_copyD : CallR X (.type "dict") rCopyD := by
  intro pins s σ H xs us Q I r h
  obtain ⟨a, kvs, rfl, e, q⟩ := h
  obtain rfl := Vals.ref1 r
  exact d_copyOf I e fun p s' np I' => ⟨.ref p, _, I', rfl, q p np⟩
end
end Jg

namespace K14
open PySem PySem.Spec PyProof.Rows L2 Jg
local macro_rules | `(tactic| walk_at "rd1") => `(tactic| (first
  | refine ⟨_, rfl, ?_⟩
  | refine ⟨_, _, rfl, rfl, ?_⟩
  | refine ⟨_, _, rfl, ?_⟩
  | refine ⟨rfl, ?_⟩
  | (refine ⟨show (0 : Int) < _ by omega, ?_⟩)
  | (refine ⟨Or.inl ⟨by omega, by omega⟩, ?_⟩)
  | (refine ⟨Or.inr ⟨by omega, by omega⟩, ?_⟩)
  | (refine ⟨(⟨by decide, by decide, by decide⟩ : CPow _ _), ?_⟩)
  | refine Or.inl ⟨_, rfl, ?_⟩
  | refine Or.inr ⟨_, rfl, ?_⟩
  | fail "rd"))
local macro_rules | `(tactic| walk_at "rd") => `(tactic| repeat' walk_at "rd1")


def top (i : Nat) : Stmt := PySem.Challenge.pw_gaplesskeys_k14_calls_of_a_fleet.main.body.getD i (.Pass ⟨0, 0, 0, 0⟩)
theorem q_true {Q : VK} {b : Bool} {H : Hp} (e : b = true) (h : Q (.bl true) H) : Q (.bl b) H := e ▸ h
def L : Int := 10 ^ 30
theorem L_eq : L = 1000000000000000000000000000000 := by decide +kernel
/-! ### the data of a kind -/
structure Kd where
  g : Int
  a : Option Int
  s : Option Str
def oV : Option Int → V
  | none => .non
  | some i => .int i
def sV : Option Str → V
  | none => .non
  | some z => .str z
def kf (u v s : V) : List (Str × V) := [("_gap", u), ("_age", v), ("_source", s)]
def kflds (r : Kd) : List (Str × V) := kf (.int r.g) (oV r.a) (sV r.s)
theorem kga : ¬ (("_gap" : Str) = "_age") := by decide +kernel
theorem kgs : ¬ (("_gap" : Str) = "_source") := by decide +kernel
theorem kas : ¬ (("_age" : Str) = "_source") := by decide +kernel
theorem put_a (u v : V) : putF "_age" v [(("_gap" : Str), u)] = [(("_gap" : Str), u), ("_age", v)] := by
  show (if ("_gap" : Str) = "_age" then _ else _) = _
  rw [if_neg kga]; rfl
theorem put_s (u v s : V) : putF "_source" s [(("_gap" : Str), u), ("_age", v)] = kf u v s := by
  show (if ("_gap" : Str) = "_source" then _ else _ :: (if ("_age" : Str) = "_source" then _ else _)) = _
  rw [if_neg kgs, if_neg kas]; rfl
theorem put_g2 (u v s z : V) : putF "_gap" z (kf u v s) = kf z v s := by
  show (if ("_gap" : Str) = "_gap" then _ else _) = _
  rw [if_pos rfl]; rfl
theorem put_a2 (u v s z : V) : putF "_age" z (kf u v s) = kf u z s := by
  show (if ("_gap" : Str) = "_age" then _ else _ :: (if ("_age" : Str) = "_age" then _ else _)) = _
  rw [if_neg kga, if_pos rfl]; rfl
theorem get_g (u v s : V) : (kf u v s).lookup ("_gap" : Str) = some u := by
  have e : ((("_gap" : Str)) == ("_gap" : Str)) = true := by decide +kernel
  simp only [kf, List.lookup, e]
theorem get_a (u v s : V) : (kf u v s).lookup ("_age" : Str) = some v := by
  have e1 : ((("_age" : Str)) == ("_gap" : Str)) = false := by decide +kernel
  have e2 : ((("_age" : Str)) == ("_age" : Str)) = true := by decide +kernel
  simp only [kf, List.lookup, e1, e2]
theorem get_s (u v s : V) : (kf u v s).lookup ("_source" : Str) = some s := by
  have e1 : ((("_source" : Str)) == ("_gap" : Str)) = false := by decide +kernel
  have e2 : ((("_source" : Str)) == ("_age" : Str)) = false := by decide +kernel
  have e3 : ((("_source" : Str)) == ("_source" : Str)) = true := by decide +kernel
  simp only [kf, List.lookup, e1, e2, e3]
theorem get_no (u v s : V) {m : Str} (h1 : (m == ("_gap" : Str)) = false) (h2 : (m == ("_age" : Str)) = false) (h3 : (m == ("_source" : Str)) = false) : (kf u v s).lookup m = none := by
  simp only [kf, List.lookup, h1, h2, h3]
/-- a kind stands at p -/
def KAt (C : Addr) (H : Hp) (p : Addr) (r : Kd) : Prop := ∃ dx, H p = some (.ins C dx (kflds r))
/-- what the walk asks of the text -/
structure Txt (K : PySem.W.Frag) (mg : Str → Option Value) (C : Addr) : Prop where
  cl : Cls K C
  ng : NoAttr K C "_gap"
  na : NoAttr K C "_age"
  ns : NoAttr K C "_source"
  cKind : mg "Kind" = some (.ref C)
  gLONGEST : ∃ u, mg "LONGEST" = some u ∧ L2.RelV (.int L) u
  b_isinstance : mg "isinstance" = none
  b_int : mg "int" = none
  b_bool : mg "bool" = none
  b_str : mg "str" = none
  b_tuple : mg "tuple" = none
  b_len : mg "len" = none
  b_max : mg "max" = none
  b_min : mg "min" = none
  b_range : mg "range" = none
  b_repr : mg "repr" = none
  gMOST_KINDS : ∃ u, mg "MOST_KINDS" = some u ∧ L2.RelV (.int 5) u
  g_LONGEST_CHAIN : ∃ u, mg "_LONGEST_CHAIN" = some u ∧ L2.RelV (.int 4) u
  b_any : mg "any" = none
  b_set : mg "set" = none
  b_dict : mg "dict" = none
  b_list : mg "list" = none
  b_sorted : mg "sorted" = none
  cls_ : PySem.W.findIn K (.ref C) "__class__" = some (some (.builtin "object.__class__"))
  cgt : PySem.W.specialIn K (.builtin "object.__class__") "__get__" = some (some (.builtin "getset_descriptor.__get__"))
  ctk : PySem.W.takesIn K (.builtin "object.__class__") = some true
  mro : PySem.W.mroIn K C (.type "object") = some true
  ne : PySem.W.findIn K (.ref C) "__ne__" = some (some (.builtin "object.__ne__"))
  kCC : PySem.W.kitOne K (.ref C) (.ref C) = some true
  kN : PySem.W.kitOne K (.type "NoneType") (.ref C) = some false
  kI : PySem.W.kitOne K (.type "int") (.ref C) = some false
  kS : PySem.W.kitOne K (.type "str") (.ref C) = some false
  kL : PySem.W.kitOne K (.type "list") (.ref C) = some false
  kT : PySem.W.kitOne K (.type "tuple") (.ref C) = some false
  kD : PySem.W.kitOne K (.type "dict") (.ref C) = some false
  oCC : PySem.W.notFirst K C (.ref C) = true
  oN : PySem.W.notFirst K C (.type "NoneType") = true
  oI : PySem.W.notFirst K C (.type "int") = true
  oS : PySem.W.notFirst K C (.type "str") = true
  oL : PySem.W.notFirst K C (.type "list") = true
  oT : PySem.W.notFirst K C (.type "tuple") = true
  oD : PySem.W.notFirst K C (.type "dict") = true
/-- what the walk asks of the class Fleet, of the small numbers and of the built-in names -/
structure FTx (K : PySem.W.Frag) (mg : Str → Option Value) (F : Addr) : Prop where
  cl : Cls K F
  nk : NoAttr K F "_kinds"
  nc : NoAttr K F "_calls"
  cFleet : mg "Fleet" = some (.ref F)
  ns : PySem.W.noSeq K F = true
  fn : ∀ f, PySem.W.findIn K (.ref F) "__getitem__" = some (some (.ref f)) → PySem.W.fnIn K f = true
section
variable {K : PySem.W.Frag} {mg : Str → Option Value} {C : Addr}
theorem Txt.ty (T : Txt K mg C) {H : Hp} {p : Addr} {r : Kd} (h : KAt C H p r) : TyX K H (.ref p) (.ref C) :=
  let ⟨_, e⟩ := h
  .base (.ins e T.cl T.cls_ T.cgt T.ctk T.mro)
end
theorem same_new {H : Hp} {p : Addr} {o : HO} (h : H p = none) : Same H (upd H p o) := fun b u e => by rw [upd_ne (ne_of_none e h)]; exact e
theorem same_new' {H H1 : Hp} {p : Addr} {o : HO} (s : Same H H1) (h : H1 p = none) : Same H (upd H1 p o) := s.trans (same_new h)
theorem same_mut {H H1 : Hp} {p : Addr} {o : HO} (s : Same H H1) (h : H p = none) : Same H (upd H1 p o) := fun b u e => by rw [upd_ne (ne_of_none e h)]; exact s b u e
theorem same_tup {K : PySem.W.Frag} {H H' : Hp} {a : Addr} {xs : List V} (e : Same H H') (h : SqT K H a xs) : SqT K H' a xs := by
  rcases h with (h | ⟨o, h⟩) | h
  · exact .inl (.inl (e _ _ h))
  · exact .inl (.inr ⟨o, e _ _ h⟩)
  · exact .inr h
/-! ### promises -/
abbrev kit (K : PySem.W.Frag) (t : Value) (n : String) (b : Bool) : Prop := PySem.W.kitOne K t (.type n) = some b
theorem kii {K : PySem.W.Frag} : kit K (.type "int") "int" true := kit_ty (by decide +kernel)
theorem kib {K : PySem.W.Frag} : kit K (.type "int") "bool" false := kit_ty (by decide +kernel)
/-- no integer, whatever comes -/
def NoInt (K : PySem.W.Frag) (H : Hp) (y : V) : Prop := ∃ t b1 b2, (∀ H', Same H H' → TyX K H' y t) ∧ kit K t "int" b1 ∧ (b1 = true → kit K t "bool" b2) ∧ (b1 && !b2) = false
def BadR (K : PySem.W.Frag) (H : Hp) (lo hi : Int) (y : V) : Prop := (∃ i, y = .int i ∧ (decide (lo ≤ i) && decide (i ≤ hi)) = false) ∨ NoInt K H y
def wordB (z : Str) : Bool := decide (z.length ≤ 8) && (PySem.Txt.isascii z && (PySem.Txt.isalpha z && PySem.Txt.islower z))
def BadW (K : PySem.W.Frag) (H : Hp) (y : V) : Prop := (∃ z, y = .str z ∧ z.length ≤ sizeLine ∧ wordB z = false) ∨ ∃ t, (∀ H', Same H H' → TyX K H' y t) ∧ kit K t "str" false
theorem NoInt.keep {K : PySem.W.Frag} {H H' : Hp} {y : V} (h : NoInt K H y) (s : Same H H') : NoInt K H' y :=
  let ⟨t, b1, b2, ty, r⟩ := h
  ⟨t, b1, b2, fun H2 s2 => ty H2 (s.trans s2), r⟩
theorem BadR.keep {K : PySem.W.Frag} {H H' : Hp} {lo hi : Int} {y : V} (h : BadR K H lo hi y) (s : Same H H') : BadR K H' lo hi y := h.elim .inl fun z => .inr (z.keep s)
theorem BadW.keep {K : PySem.W.Frag} {H H' : Hp} {y : V} (h : BadW K H y) (s : Same H H') : BadW K H' y := h.elim .inl fun ⟨t, ty, r⟩ => .inr ⟨t, fun H2 s2 => ty H2 (s.trans s2), r⟩
def aOk (a : Option Int) : Prop := ∀ i, a = some i → 0 ≤ i ∧ i ≤ L
def sOk (s : Option Str) : Prop := ∀ z, s = some z → z.length ≤ sizeLine ∧ wordB z = true
def gG (y : V) : Prop := ∃ g : Int, y = .int g ∧ 1 ≤ g ∧ g ≤ L
def gA (y : V) : Prop := ∃ a, y = oV a ∧ aOk a
def gS (y : V) : Prop := ∃ s, y = sV s ∧ sOk s
def bG (K : PySem.W.Frag) (H : Hp) (y : V) : Prop := BadR K H 1 L y
def bA (K : PySem.W.Frag) (H : Hp) (y : V) : Prop := y ≠ .non ∧ BadR K H 0 L y
def bS (K : PySem.W.Frag) (H : Hp) (y : V) : Prop := y ≠ .non ∧ BadW K H y
structure KOk (r : Kd) : Prop where
  g : 1 ≤ r.g ∧ r.g ≤ L
  a : aOk r.a
  s : sOk r.s
def spIsInt (K : PySem.W.Frag) : Sp := fun vs H Q _ => ∃ x t b1 b2, vs = [x] ∧ TyX K H x t ∧ kit K t "int" b1 ∧ (b1 = true → kit K t "bool" b2) ∧ Q (.bl (b1 && !b2)) H
def spBtwn (K : PySem.W.Frag) : Sp := fun vs H Q _ => ∃ y lo hi, vs = [y, .int lo, .int hi] ∧ ((∃ i, y = .int i ∧ Q (.bl (decide (lo ≤ i) && decide (i ≤ hi))) H) ∨ (NoInt K H y ∧ Q (.bl false) H))
def spWord (K : PySem.W.Frag) : Sp := fun vs H Q _ => ∃ y, vs = [y] ∧ ((∃ z, y = .str z ∧ z.length ≤ sizeLine ∧ Q (.bl (wordB z)) H) ∨ (∃ t, TyX K H y t ∧ kit K t "str" false ∧ Q (.bl false) H))
def spChk (good : V → Prop) (bad : Hp → V → Prop) (CI : Addr) : Sp := fun vs H Q E => ∃ y, vs = [y] ∧ ((good y ∧ Q y H) ∨ (bad H y ∧ ∀ d, H d = none → E (.ref CI) (some d) (upd H d (.xd [(("value" : Str), y)]))))
section
variable {P : Program} {w : World} {K : PySem.W.Frag} {mg : Str → Option Value} {base : Heap} {C : Addr}
abbrev s_is_integer : Stmt := top 9
theorem sc_is_integer : FnScope ["value"] ["value"] (defScope s_is_integer) := ⟨rfl, rfl, rfl, by decide +kernel, rfl, by decide +kernel, by decide +kernel⟩
theorem ok_is_integer (D : DefK K mg "is_integer" s_is_integer) (T : Txt K mg C) : Cal P w K mg base CX0 1 "is_integer" (spIsInt K) := by
  refine D.cal sc_is_integer (fun _ _ _ _ _ _ us hl => match us, hl with | [_], _ => rfl) (fun vs H Q E h => ?_) fun f cdv A outer s H vs Q E hr h => ?_
  · obtain ⟨x, t, b1, b2, rfl, _⟩ := h; rfl
  · obtain ⟨x, t, b1, b2, rfl, ty, k1, k2, q⟩ := h
    refine ⟨_, (pss_one (ps_ret (pe_and (pe_callB call_isi (by rfl) T.b_isinstance (by decide +kernel) (pa_cons (pv 0) (pa_cons (pe_ty (n := "int") (by rfl) T.b_int (by decide +kernel)) pa_nil))) (pe_one (pe_not (pe_callB call_isi (by rfl) T.b_isinstance (by decide +kernel) (pa_cons (pv 0) (pa_cons (pe_ty (n := "bool") (by rfl) T.b_bool (by decide +kernel)) pa_nil)))))))), ?_⟩
    refine ⟨_, rfl, x, .ty "int", t, _, b1, rfl, .ty "int", ty, k1, b1, rfl, ?_⟩
    cases b1 with
    | false => exact iteF q
    | true => exact iteT ⟨_, rfl, x, .ty "bool", t, _, b2, rfl, .ty "bool", ty, k2 rfl, b2, rfl, q⟩
abbrev s_is_between : Stmt := top 10
theorem sc_is_between : FnScope ["value", "least", "most"] ["value", "least", "most"] (defScope s_is_between) := ⟨rfl, rfl, rfl, by decide +kernel, rfl, by decide +kernel, by decide +kernel⟩
theorem ok_is_between (D : DefK K mg "is_between" s_is_between) (T : Txt K mg C) (G_is_integer : Cal P w K mg base CX0 1 "is_integer" (spIsInt K)) : Cal P w K mg base CX0 2 "is_between" (spBtwn K) := by
  refine D.cal sc_is_between (fun _ _ _ _ _ _ us hl => match us, hl with | [_, _, _], _ => rfl) (fun vs H Q E h => ?_) fun f cdv A outer s H vs Q E hr h => ?_
  · obtain ⟨y, lo, hi, rfl, _⟩ := h; rfl
  · obtain ⟨y, lo, hi, rfl, h⟩ := h
    refine ⟨_, (pss_one (ps_ret (pe_and (pe_c G_is_integer hr (by decide) rfl (pa_cons (pv 0) pa_nil)) (pe_one (pe_chain op_le op_le (pv 1) (pv 0) (pv 2)))))), ?_⟩
    rcases h with ⟨i, rfl, q⟩ | ⟨⟨t, b1, b2, ty, k1, k2, e⟩, q⟩
    · refine ⟨_, rfl, .int i, _, true, false, rfl, .base (.int i), kii, fun _ => kib, true, rfl, iteT ?_⟩
      refine ⟨_, rfl, _, rfl, lo, i, rfl, rfl, _, rfl, ?_⟩
      by_cases c : lo ≤ i
      · rw [decide_eq_true c]
        refine iteT ⟨_, rfl, i, hi, rfl, rfl, ?_⟩
        rw [decide_eq_true c] at q
        exact q
      · rw [decide_eq_false c]
        rw [decide_eq_false c] at q
        exact iteF q
    · refine ⟨_, rfl, y, t, b1, b2, rfl, ty H (.refl H), k1, k2, _, rfl, ?_⟩
      rw [e]
      exact iteF q
abbrev s_is_word : Stmt := top 11
theorem sc_is_word : FnScope ["value"] ["value"] (defScope s_is_word) := ⟨rfl, rfl, rfl, by decide +kernel, rfl, by decide +kernel, by decide +kernel⟩
theorem ok_is_word (D : DefK K mg "is_word" s_is_word) (T : Txt K mg C) : Cal P w K mg base CX0 1 "is_word" (spWord K) := by
  refine D.cal sc_is_word (fun _ _ _ _ _ _ us hl => match us, hl with | [_], _ => rfl) (fun vs H Q E h => ?_) fun f cdv A outer s H vs Q E hr h => ?_
  · obtain ⟨y, rfl, _⟩ := h; rfl
  · obtain ⟨y, rfl, h⟩ := h
    refine ⟨_, (pss_cons (ps_if (PW.pt (pw_or (pt_not (pt_val (pe_callB call_isi (by rfl) T.b_isinstance (by decide +kernel) (pa_cons (pv 0) (pa_cons (pe_ty (n := "str") (by rfl) T.b_str (by decide +kernel)) pa_nil))))) (pw_or1 (pt_cmpR op_gt (pe_callB call_len_str (by rfl) T.b_len (by decide +kernel) (pa_cons (pv 0) pa_nil)) pe_int (nomark _))))) (pss_one (ps_ret pe_bl)) pss_nil)
      (pss_one (ps_ret (pe_and (pe_m0 F.slot_str_isascii F.type_str_isascii mt_isascii (pv 0)) (pe_and (pe_m0 F.slot_str_isalpha F.type_str_isalpha mt_isalpha (pv 0)) (pe_one (pe_m0 F.slot_str_islower F.type_str_islower mt_islower (pv 0)))))))), ?_⟩
    rcases h with ⟨z, rfl, hz, q⟩ | ⟨t, ty, k, q⟩
    · refine ⟨_, rfl, .str z, .ty "str", _, _, true, rfl, .ty "str", .base (.str z), kit_ty (by decide +kernel), _, rfl, iteF ?_⟩
      refine ⟨_, rfl, z, rfl, hz, _, _, rfl, rfl, _, rfl, ?_⟩
      unfold wordB at q
      by_cases c : z.length ≤ 8
      · refine iteFe (decide_eq_false (by omega)) ?_
        rw [decide_eq_true c] at q
        refine ⟨_, rfl, ⟨_, rfl⟩, z, rfl, rfl, trivial, _, rfl, ?_⟩
        cases h1 : PySem.Txt.isascii z with
        | false => rw [h1] at q; exact iteF q
        | true =>
          rw [h1] at q
          refine iteT ⟨_, rfl, ⟨_, rfl⟩, z, rfl, rfl, trivial, _, rfl, ?_⟩
          cases h2 : PySem.Txt.isalpha z with
          | false => rw [h2] at q; exact iteF q
          | true =>
            rw [h2] at q
            exact iteT ⟨_, rfl, ⟨_, rfl⟩, z, rfl, rfl, trivial, q⟩
      · refine iteTe (decide_eq_true (by omega)) ?_
        rw [decide_eq_false c] at q
        exact q
    · exact ⟨_, rfl, y, .ty "str", t, _, false, rfl, .ty "str", ty, k, _, rfl, iteT q⟩
end

end K14

namespace K14
open PySem PySem.Spec PyProof.Rows L2 Jg
local macro_rules | `(tactic| walk_at "rd1") => `(tactic| (first
  | refine ⟨_, rfl, ?_⟩
  | refine ⟨_, _, rfl, rfl, ?_⟩
  | refine ⟨_, _, rfl, ?_⟩
  | refine ⟨rfl, ?_⟩
  | (refine ⟨show (0 : Int) < _ by omega, ?_⟩)
  | (refine ⟨Or.inl ⟨by omega, by omega⟩, ?_⟩)
  | (refine ⟨Or.inr ⟨by omega, by omega⟩, ?_⟩)
  | (refine ⟨(⟨by decide, by decide, by decide⟩ : CPow _ _), ?_⟩)
  | refine Or.inl ⟨_, rfl, ?_⟩
  | refine Or.inr ⟨_, rfl, ?_⟩
  | fail "rd"))
local macro_rules | `(tactic| walk_at "rd") => `(tactic| repeat' walk_at "rd1")


/-! ### what is raised -/
structure ExnQ (K : PySem.W.Frag) (mg : Str → Option Value) (x : Str) (CI : Addr) (qual : Str) (st : Stmt) (f : Str) : Prop where
  mg_ : mg x = some (.ref CI)
  ovr : Ovr K CI
  xk : ExcK K CI
  no : PySem.W.findIn K (.ref CI) f = some none
  ini : ∃ fI fd, Fun K "__init__" qual st fI fd ∧ PySem.W.findIn K (.ref CI) "__init__" = some (some (.ref fI)) ∧ PySem.W.typeIn K (.ref fI) = some (.type "function")
  te : PySem.W.exmOne K (.ref CI) (.ref CI) = some true
/-- __init__ of a kind that is being made -/
def spKInit (K : PySem.W.Frag) (C CI : Addr) : Sp := fun vs H Q E => ∃ x dx u v s H0, vs = [.ref x, u, v, s] ∧ H x = some (.ins C dx []) ∧ Same H0 H ∧ H0 x = none ∧
  ((∃ r : Kd, u = .int r.g ∧ v = oV r.a ∧ s = sV r.s ∧ KOk r ∧ ∀ H', KAt C H' x r → (∀ b o, H b = some o → b ≠ x → H' b = some o) → Q .non H') ∨
   (∃ y, ((y = u ∧ bG K H0 u) ∨ (y = v ∧ gG u ∧ bA K H0 v) ∨ (y = s ∧ gG u ∧ gA v ∧ bS K H0 s)) ∧ ∀ d H', H0 d = none → H' d = some (.xd [(("value" : Str), y)]) → Same H0 H' → E (.ref CI) (some d) H'))
theorem shaped_str {x : Str} (ok : PyData.strOk x = true) : SeqAt.shaped (.str x) = true := by
  have e1 : (PyData.str x).canLay0 = true := by simp [PyData.canLay0, ok]
  have e2 : (PyData.str x).depth ≤ 64 := by first | (simp [PyData.depth]; done) | (show 0 ≤ 64; decide)
  exact Bool.and_eq_true_iff.mpr ⟨e1, decide_eq_true e2⟩
theorem oV_non {K : PySem.W.Frag} {a : Option Int} : decide (oV a = .non) = a.isNone := by cases a <;> rfl
section
variable {P : Program} {w : World} {K : PySem.W.Frag} {mg : Str → Option Value} {base : Heap} {C CI CU : Addr}
abbrev s_InvalidKind_init : Stmt := inClass (top 4) 0
theorem sc_InvalidKind_init : FnScope ["self", "value"] ["self", "value"] (defScope s_InvalidKind_init) := ⟨rfl, rfl, rfl, by decide +kernel, rfl, by decide +kernel, by decide +kernel⟩
theorem ok_kinit (D : ExnQ K mg "InvalidKind" CI "InvalidKind.__init__" s_InvalidKind_init "value") : ExnB P w K mg base 1 "InvalidKind" CI (spX CI "value") := by
  obtain ⟨fI, fd, F, a, ty⟩ := D.ini
  refine ⟨D.mg_, D.ovr, fI, fd, _, F.ok sc_InvalidKind_init (fun vs H Q E h => ?_) (fun cdv A outer s H vs Q E hr h => ?_), a, ty, F.binds (fun _ _ _ _ _ _ us hl => match us, hl with | [_, _], _ => rfl)⟩
  · obtain ⟨a, y, rfl, _⟩ := h; rfl
  · obtain ⟨a, y, rfl, ha, k⟩ := h
    exact ⟨_, (pss_one (ps_keep (pv 0) (pv 1))), _, rfl, _, rfl, a, CI, rfl, D.ovr, D.no, ha, fun dx n e => k dx n e⟩
abbrev s_UnknownName_init : Stmt := inClass (top 6) 0
theorem sc_UnknownName_init : FnScope ["self", "name"] ["self", "name"] (defScope s_UnknownName_init) := ⟨rfl, rfl, rfl, by decide +kernel, rfl, by decide +kernel, by decide +kernel⟩
theorem ok_uinit (D : ExnQ K mg "UnknownName" CU "UnknownName.__init__" s_UnknownName_init "name") : ExnB P w K mg base 1 "UnknownName" CU (spX CU "name") := by
  obtain ⟨fI, fd, F, a, ty⟩ := D.ini
  refine ⟨D.mg_, D.ovr, fI, fd, _, F.ok sc_UnknownName_init (fun vs H Q E h => ?_) (fun cdv A outer s H vs Q E hr h => ?_), a, ty, F.binds (fun _ _ _ _ _ _ us hl => match us, hl with | [_, _], _ => rfl)⟩
  · obtain ⟨a, y, rfl, _⟩ := h; rfl
  · obtain ⟨a, y, rfl, ha, k⟩ := h
    exact ⟨_, (pss_one (ps_keep (pv 0) (pv 1))), _, rfl, _, rfl, a, CU, rfl, D.ovr, D.no, ha, fun dx n e => k dx n e⟩
abbrev s_checked_gap : Stmt := top 17
theorem sc_checked_gap : FnScope ["value"] ["value"] (defScope s_checked_gap) := ⟨rfl, rfl, rfl, by decide +kernel, rfl, by decide +kernel, by decide +kernel⟩
theorem ok_cg (D : DefK K mg "_checked_gap" s_checked_gap) (T : Txt K mg C) (G_is_between : Cal P w K mg base CX0 2 "is_between" (spBtwn K)) (G_InvalidKind : ExnB P w K mg base 1 "InvalidKind" CI (spX CI "value")) : Cal P w K mg base (L2.CX P w) 3 "_checked_gap" (spChk gG (bG K) CI) := by
  refine D.calX sc_checked_gap (fun _ _ _ _ _ _ us hl => match us, hl with | [_], _ => rfl) (fun vs H Q E h => ?_) fun f cdv A outer s H vs Q E hr h => ?_
  · obtain ⟨y, rfl, _⟩ := h; rfl
  · obtain ⟨y, rfl, h⟩ := h
    refine ⟨_, (pss_cons (ps_if (pt_not (pt_val (pe_c G_is_between hr (by decide) rfl (pa_cons (pv 0) (pa_cons pe_int (pa_cons (pe_gc rfl T.gLONGEST) pa_nil)))))) (pss_one (ps_raise rfl (takes_of rfl rfl rfl rfl) (pmk_b G_InvalidKind hr (by decide) rfl (pa_cons (pv 0) pa_nil)))) pss_nil)
      (pss_one (ps_ret (pv 0)))), ?_⟩
    rcases h with ⟨⟨g, rfl, g1, g2⟩, q⟩ | ⟨bad, k⟩
    · refine ⟨_, rfl, .int g, 1, L, rfl, .inl ⟨g, rfl, _, rfl, ?_⟩⟩
      rw [decide_eq_true g1, decide_eq_true g2]
      exact iteF ⟨_, rfl, q⟩
    · rcases bad with ⟨i, rfl, e⟩ | no
      · refine ⟨_, rfl, .int i, 1, L, rfl, .inl ⟨i, rfl, _, rfl, ?_⟩⟩
        rw [e]
        exact iteT ⟨_, rfl, x_read fun d nd => k d nd⟩
      · exact ⟨_, rfl, y, 1, L, rfl, .inr ⟨no, _, rfl, iteT ⟨_, rfl, x_read fun d nd => k d nd⟩⟩⟩
abbrev s_checked_age : Stmt := top 18
theorem sc_checked_age : FnScope ["value"] ["value"] (defScope s_checked_age) := ⟨rfl, rfl, rfl, by decide +kernel, rfl, by decide +kernel, by decide +kernel⟩
theorem ok_ca (D : DefK K mg "_checked_age" s_checked_age) (T : Txt K mg C) (G_is_between : Cal P w K mg base CX0 2 "is_between" (spBtwn K)) (G_InvalidKind : ExnB P w K mg base 1 "InvalidKind" CI (spX CI "value")) : Cal P w K mg base (L2.CX P w) 3 "_checked_age" (spChk gA (bA K) CI) := by
  refine D.calX sc_checked_age (fun _ _ _ _ _ _ us hl => match us, hl with | [_], _ => rfl) (fun vs H Q E h => ?_) fun f cdv A outer s H vs Q E hr h => ?_
  · obtain ⟨y, rfl, _⟩ := h; rfl
  · obtain ⟨y, rfl, h⟩ := h
    refine ⟨_, (pss_cons (ps_if (PW.pt (pw_and (pt_cmpR op_notN (pv 0) pe_non (nomark _)) (pw_and1 (pt_not (pt_val (pe_c G_is_between hr (by decide) rfl (pa_cons (pv 0) (pa_cons pe_int (pa_cons (pe_gc rfl T.gLONGEST) pa_nil))))))))) (pss_one (ps_raise rfl (takes_of rfl rfl rfl rfl) (pmk_b G_InvalidKind hr (by decide) rfl (pa_cons (pv 0) pa_nil)))) pss_nil)
      (pss_one (ps_ret (pv 0)))), ?_⟩
    rcases h with ⟨⟨a, rfl, ok⟩, q⟩ | ⟨⟨nn, bad⟩, k⟩
    · cases a with
      | none => exact ⟨_, rfl, rfl, _, rfl, iteF ⟨_, rfl, q⟩⟩
      | some i =>
        refine ⟨_, rfl, rfl, _, rfl, iteT ⟨_, rfl, .int i, 0, L, rfl, .inl ⟨i, rfl, _, rfl, ?_⟩⟩⟩
        have o := ok i rfl
        rw [decide_eq_true o.1, decide_eq_true o.2]
        exact iteF ⟨_, rfl, q⟩
    · refine ⟨_, rfl, rfl, _, rfl, ?_⟩
      rw [decide_eq_false nn]
      rcases bad with ⟨i, rfl, e⟩ | no
      · refine iteT ⟨_, rfl, .int i, 0, L, rfl, .inl ⟨i, rfl, _, rfl, ?_⟩⟩
        rw [e]
        exact iteT ⟨_, rfl, x_read fun d nd => k d nd⟩
      · exact iteT ⟨_, rfl, y, 0, L, rfl, .inr ⟨no, _, rfl, iteT ⟨_, rfl, x_read fun d nd => k d nd⟩⟩⟩
abbrev s_checked_source : Stmt := top 19
theorem sc_checked_source : FnScope ["value"] ["value"] (defScope s_checked_source) := ⟨rfl, rfl, rfl, by decide +kernel, rfl, by decide +kernel, by decide +kernel⟩
theorem ok_cs (D : DefK K mg "_checked_source" s_checked_source) (T : Txt K mg C) (G_is_word : Cal P w K mg base CX0 1 "is_word" (spWord K)) (G_InvalidKind : ExnB P w K mg base 1 "InvalidKind" CI (spX CI "value")) : Cal P w K mg base (L2.CX P w) 3 "_checked_source" (spChk gS (bS K) CI) := by
  refine D.calX sc_checked_source (fun _ _ _ _ _ _ us hl => match us, hl with | [_], _ => rfl) (fun vs H Q E h => ?_) fun f cdv A outer s H vs Q E hr h => ?_
  · obtain ⟨y, rfl, _⟩ := h; rfl
  · obtain ⟨y, rfl, h⟩ := h
    refine ⟨_, (pss_cons (ps_if (PW.pt (pw_and (pt_cmpR op_notN (pv 0) pe_non (nomark _)) (pw_and1 (pt_not (pt_val (pe_c G_is_word hr (by decide) rfl (pa_cons (pv 0) pa_nil))))))) (pss_one (ps_raise rfl (takes_of rfl rfl rfl rfl) (pmk_b G_InvalidKind hr (by decide) rfl (pa_cons (pv 0) pa_nil)))) pss_nil)
      (pss_one (ps_ret (pv 0)))), ?_⟩
    rcases h with ⟨⟨s, rfl, ok⟩, q⟩ | ⟨⟨nn, bad⟩, k⟩
    · cases s with
      | none => exact ⟨_, rfl, rfl, _, rfl, iteF ⟨_, rfl, q⟩⟩
      | some z =>
        have o := ok z rfl
        refine ⟨_, rfl, rfl, _, rfl, iteT ⟨_, rfl, .str z, rfl, .inl ⟨z, rfl, o.1, _, rfl, ?_⟩⟩⟩
        rw [o.2]
        exact iteF ⟨_, rfl, q⟩
    · refine ⟨_, rfl, rfl, _, rfl, ?_⟩
      rw [decide_eq_false nn]
      rcases bad with ⟨z, rfl, hz, e⟩ | ⟨t, ty, kt⟩
      · refine iteT ⟨_, rfl, .str z, rfl, .inl ⟨z, rfl, hz, _, rfl, ?_⟩⟩
        rw [e]
        exact iteT ⟨_, rfl, x_read fun d nd => k d nd⟩
      · exact iteT ⟨_, rfl, y, rfl, .inr ⟨t, ty _ (.refl _), kt, _, rfl, iteT ⟨_, rfl, x_read fun d nd => k d nd⟩⟩⟩
abbrev s_Kind_init : Stmt := inClass (top 22) 0
theorem sc_Kind_init : FnScope ["self", "gap", "age", "source"] ["self", "gap", "age", "source"] (defScope s_Kind_init) := ⟨rfl, rfl, rfl, by decide +kernel, rfl, by decide +kernel, by decide +kernel⟩
theorem body_kinit (T : Txt K mg C) (G_checked_gap : Cal P w K mg base (L2.CX P w) 3 "_checked_gap" (spChk gG (bG K) CI)) (G_checked_age : Cal P w K mg base (L2.CX P w) 3 "_checked_age" (spChk gA (bA K) CI)) (G_checked_source : Cal P w K mg base (L2.CX P w) 3 "_checked_source" (spChk gS (bS K) CI))
    (f : Addr) : BodyX P w K mg base ["self", "gap", "age", "source"] "Kind.__init__" s_Kind_init f 4 (spKInit K C CI) := by
  intro cdv A outer s H vs Q E hr h
  obtain ⟨x, dx, u, v, so, H0, rfl, hx, s0, n0, h⟩ := h
  refine ⟨_, (pss_cons (ps_fld (pv 0) (pe_cS G_checked_gap (takes_of rfl rfl rfl rfl) hr (by decide) rfl (pa_cons (pv 1) pa_nil)) rfl)
      (pss_cons (ps_fld (pv 0) (pe_cS G_checked_age (takes_of rfl rfl rfl rfl) hr (by decide) rfl (pa_cons (pv 2) pa_nil)) rfl)
      (pss_one (ps_fld (pv 0) (pe_cS G_checked_source (takes_of rfl rfl rfl rfl) hr (by decide) rfl (pa_cons (pv 3) pa_nil)) rfl)))), ?_⟩
  have npos : (0 : Nat) < 1000 := by decide
  have one : (1 : Nat) < 1000 := by decide
  have two : (2 : Nat) < 1000 := by decide
  rcases h with ⟨r, rfl, rfl, rfl, ok, q⟩ | ⟨y, hy, k⟩
  · refine ⟨_, rfl, .int r.g, rfl, .inl ⟨⟨r.g, rfl, ok.g⟩, _, rfl, x, C, dx, [], rfl, hx, T.cl, T.ng, npos, ?_⟩⟩
    rw [show putF "_gap" (V.int r.g) [] = [(("_gap" : Str), V.int r.g)] from rfl]
    refine ⟨_, rfl, oV r.a, rfl, .inl ⟨⟨r.a, rfl, ok.a⟩, _, rfl, x, C, dx, _, rfl, upd_same, T.cl, T.na, one, ?_⟩⟩
    rw [put_a, upd_upd]
    refine ⟨_, rfl, sV r.s, rfl, .inl ⟨⟨r.s, rfl, ok.s⟩, _, rfl, x, C, dx, _, rfl, upd_same, T.cl, T.ns, two, ?_⟩⟩
    rw [put_s, upd_upd]
    exact q _ ⟨dx, upd_same⟩ fun b o e n => by rw [upd_ne n]; exact e
  · rcases hy with ⟨rfl, bad⟩ | ⟨rfl, ⟨g, rfl, g1⟩, bad⟩ | ⟨rfl, ⟨g, rfl, g1⟩, ⟨a, rfl, a1⟩, bad⟩
    · exact ⟨_, rfl, y, rfl, .inr ⟨bad.keep s0, fun d nd => k d _ (s0.free nd) upd_same (same_new' s0 nd)⟩⟩
    · refine ⟨_, rfl, .int g, rfl, .inl ⟨⟨g, rfl, g1⟩, _, rfl, x, C, dx, [], rfl, hx, T.cl, T.ng, npos, ?_⟩⟩
      have s1 := same_mut (o := .ins C dx (putF "_gap" (V.int g) [])) s0 n0
      exact ⟨_, rfl, y, rfl, .inr ⟨⟨bad.1, bad.2.keep s1⟩, fun d nd => k d _ (s1.free nd) upd_same (same_new' s1 nd)⟩⟩
    · refine ⟨_, rfl, .int g, rfl, .inl ⟨⟨g, rfl, g1⟩, _, rfl, x, C, dx, [], rfl, hx, T.cl, T.ng, npos, ?_⟩⟩
      refine ⟨_, rfl, oV a, rfl, .inl ⟨⟨a, rfl, a1⟩, _, rfl, x, C, dx, _, rfl, upd_same, T.cl, T.na, one, ?_⟩⟩
      rw [upd_upd]
      have s1 := same_mut (o := .ins C dx (putF "_age" (oV a) (putF "_gap" (V.int g) []))) s0 n0
      exact ⟨_, rfl, y, rfl, .inr ⟨⟨bad.1, bad.2.keep s1⟩, fun d nd => k d _ (s1.free nd) upd_same (same_new' s1 nd)⟩⟩
end

end K14

namespace K14
open PySem PySem.Spec PyProof.Rows L2 Jg
local macro_rules | `(tactic| walk_at "rd1") => `(tactic| (first
  | refine ⟨_, rfl, ?_⟩
  | refine ⟨_, _, rfl, rfl, ?_⟩
  | refine ⟨_, _, rfl, ?_⟩
  | refine ⟨rfl, ?_⟩
  | (refine ⟨show (0 : Int) < _ by omega, ?_⟩)
  | (refine ⟨Or.inl ⟨by omega, by omega⟩, ?_⟩)
  | (refine ⟨Or.inr ⟨by omega, by omega⟩, ?_⟩)
  | (refine ⟨(⟨by decide, by decide, by decide⟩ : CPow _ _), ?_⟩)
  | refine Or.inl ⟨_, rfl, ?_⟩
  | refine Or.inr ⟨_, rfl, ?_⟩
  | fail "rd"))
local macro_rules | `(tactic| walk_at "rd") => `(tactic| repeat' walk_at "rd1")


/-! ### draws -/
theorem seq_upd {K : PySem.W.Frag} {H : Hp} {l p : Addr} {xs : List V} {o : HO} (h : SqL K H l xs) (n : l ≠ p) : SqL K (upd H p o) l xs := by
  rcases h with (h | ⟨z, h⟩) | h
  · exact .inl (.inl (by rw [upd_ne n]; exact h))
  · exact .inl (.inr ⟨z, by rw [upd_ne n]; exact h⟩)
  · exact .inr h
def spStream (K : PySem.W.Frag) : Sp := fun vs H Q _ => ∃ (a : Addr) (ns : List Int) (k : Nat), vs = [.ref a, .int k] ∧ SqL K H a (ns.map V.int) ∧ k ≤ 1000 ∧
  ∀ p x y, H p = none → 0 ≤ x → Q (.ref p) (upd H p (.lst [.int x, .int y]))
def spDraw : Sp := fun vs H Q _ => ∃ p a b n, vs = [.ref p, .int n] ∧ H p = some (.lst [.int a, .int b]) ∧ 0 ≤ a ∧ 0 < n ∧ n.natAbs < 2 ^ 300 ∧
  ∀ v a' b', 0 ≤ v → v < n → 0 ≤ a' → Q (.int v) (upd H p (.lst [.int a', .int b']))
/-- from a list, or a sign of a text -/
def spChoose (K : PySem.W.Frag) : Sp := fun vs H Q _ => ∃ p y a b, vs = [.ref p, y] ∧ H p = some (.lst [.int a, .int b]) ∧ 0 ≤ a ∧
  ((∃ l xs, y = .ref l ∧ SqL K H l xs ∧ l ≠ p ∧ 0 < xs.length ∧ xs.length < 1000 ∧ ∀ (i : Nat) (v : V) (a' b' : Int), xs[i]? = some v → 0 ≤ a' → Q v (upd H p (.lst [.int a', .int b']))) ∨
   (∃ z : Str, y = .str z ∧ 0 < z.length ∧ z.length < 1000 ∧ ∀ (c : Nat) (a' b' : Int), c ∈ z.cps.toList → 0 ≤ a' → Q (.str ⟨#[c]⟩) (upd H p (.lst [.int a', .int b']))))
theorem i1000 {n : Int} (h0 : 0 ≤ n) (h : n < 1000) : n.natAbs < 2 ^ 300 := by
  have : n.natAbs < 1024 := by omega
  exact Nat.lt_of_lt_of_le this (by decide +kernel)
/-- all stays, but what stands at p -/
def SameB (p : Addr) (H H' : Hp) : Prop := ∀ q o, H q = some o → q ≠ p → H' q = some o
theorem SameB.refl (p : Addr) (H : Hp) : SameB p H H := fun _ _ e _ => e
theorem SameB.trans {p : Addr} {H H1 H2 : Hp} (a : SameB p H H1) (b : SameB p H1 H2) : SameB p H H2 := fun q o e n => b q o (a q o e n) n
theorem SameB.of {p : Addr} {H H1 : Hp} (a : Same H H1) : SameB p H H1 := fun q o e _ => a q o e
theorem SameB.new {p l : Addr} {H H1 : Hp} {o : HO} (a : SameB p H H1) (h : H1 l = none) : SameB p H (upd H1 l o) := fun q u e n => by
  have z := a q u e n
  rw [upd_ne (ne_of_none z h)]
  exact z
theorem SameB.mut {p : Addr} {H H1 : Hp} {o : HO} (a : SameB p H H1) : SameB p H (upd H1 p o) := fun q u e n => by
  rw [upd_ne n]
  exact a q u e n
theorem SameB.out {p : Addr} {H H1 H2 : Hp} (a : Same H H1) (b : SameB p H1 H2) (n : H p = none) : Same H H2 := fun q o e => b q o (a q o e) (ne_of_none e n)
def StA (H : Hp) (p : Addr) : Prop := ∃ a b, H p = some (.lst [.int a, .int b]) ∧ 0 ≤ a
theorem StA.ne {H : Hp} {p l : Addr} (h : StA H p) (n : H l = none) : l ≠ p := fun z => by
  obtain ⟨a, b, e, _⟩ := h
  rw [z, e] at n
  cases n
theorem yes_if {σ : L2.St} {H : Hp} {A B : Hp → Prop} (h : A H) : tYes σ H (fun b H3 => if b = true then A H3 else B H3) := by
  show (if true = true then A H else B H)
  rw [if_pos rfl]
  exact h
theorem ne_dec {x y : Int} : decide (V.int x = V.int y) = decide (x = y) := by
  by_cases c : x = y
  · rw [c, decide_eq_true rfl, decide_eq_true rfl]
  · rw [decide_eq_false c, decide_eq_false fun z => c (V.int.inj z)]
theorem p30 : (10 : Int) ^ (30 : Int).toNat = 1000000000000000000000000000000 := by decide +kernel
theorem p20 : (10 : Int) ^ (20 : Int).toNat = 100000000000000000000 := by decide +kernel
theorem p9 : (10 : Int) ^ (9 : Int).toNat = 1000000000 := by decide +kernel
theorem SameB.free {p l : Addr} {H H' : Hp} (s : SameB p H H') (n : H' l = none) (np : l ≠ p) : H l = none := by
  cases e : H l with
  | none => rfl
  | some o =>
    have z := s l o e np
    rw [n] at z; cases z
/-! ### letters -/
def AZ (z : Str) : Prop := ∀ c ∈ z.cps.toList, 97 ≤ c ∧ c ≤ 122
theorem az_app {a b : Str} (h1 : AZ a) (h2 : AZ b) : AZ (a ++ b) := fun c h => by
  rw [Str.cps_append, Array.toList_append, List.mem_append] at h
  exact h.elim (h1 c) (h2 c)
theorem az_one {c : Nat} (h : 97 ≤ c ∧ c ≤ 122) : AZ ⟨#[c]⟩ := fun d hd => by
  have e : d = c := by simpa using hd
  rw [e]; exact h
def letters : Str := "abcdefghijklmnopqrstuvwxyz"
theorem letters_az : AZ letters := by
  have h : ∀ c ∈ letters.cps.toList, 97 ≤ c ∧ c ≤ 122 := by decide +kernel
  exact h
theorem letters_len : letters.length = 26 := by decide +kernel
/-- single signs, joined -/
def Ones (ys : List Str) : Prop := ∀ y ∈ ys, AZ y ∧ y.length = 1
theorem join_az : ∀ ys : List Str, Ones ys → AZ (Str.join Str.empty ys) ∧ (Str.join Str.empty ys).length = ys.length
  | [], _ => ⟨(fun c h => by cases h), rfl⟩
  | [x], h => ⟨(h x (by simp)).1, (h x (by simp)).2⟩
  | x :: y :: r, h => by
    obtain ⟨h1, h2⟩ := join_az (y :: r) fun z hz => h z (List.mem_cons_of_mem _ hz)
    have e : Str.join Str.empty (x :: y :: r) = x ++ Str.join Str.empty (y :: r) := by
      show x ++ Str.empty ++ Str.join Str.empty (y :: r) = _
      rw [Str.append_empty]
    rw [e]
    refine ⟨az_app (h x (by simp)).1 h1, ?_⟩
    rw [Str.length_append, h2, (h x (by simp)).2, List.length_cons, List.length_cons, List.length_cons]
    omega
theorem ones_sum : ∀ ys : List Str, Ones ys → (ys.map (·.length)).sum = ys.length
  | [], _ => rfl
  | x :: r, h => by
    rw [List.map_cons, List.sum_cons, ones_sum r fun z hz => h z (List.mem_cons_of_mem _ hz), (h x (by simp)).2, List.length_cons]
    omega
theorem az_sign : ∀ c : Nat, 97 ≤ c → c ≤ 122 → (Unicode.isAlpha c && (Unicode.isLower c && (!Unicode.isUpper c && !Unicode.isTitle c))) = true := by
  intro c h1 h2
  have h : ∀ d ∈ (List.range 26).map (97 + ·), (Unicode.isAlpha d && (Unicode.isLower d && (!Unicode.isUpper d && !Unicode.isTitle d))) = true := by decide +kernel
  exact h c (List.mem_map.mpr ⟨c - 97, List.mem_range.mpr (by omega), by show 97 + (c - 97) = c; omega⟩)
theorem az_all {z : Str} {p : Nat → Bool} (h : AZ z) (hp : ∀ c, 97 ≤ c → c ≤ 122 → p c = true) : z.cps.all p = true := by
  rw [← Array.all_toList]
  exact List.all_eq_true.mpr fun c hc => hp c (h c hc).1 (h c hc).2
theorem az_word {z : Str} (h : AZ z) (h1 : 1 ≤ z.length) (h8 : z.length ≤ 8) : wordB z = true := by
  have pos : 0 < z.cps.toList.length := by
    have e : z.length = z.cps.size := rfl
    rw [Array.length_toList]; omega
  have ha : PySem.Txt.isascii z = true := az_all h fun c _ _ => decide_eq_true (by omega)
  have hb : PySem.Txt.isalpha z = true := by
    unfold PySem.Txt.isalpha
    rw [az_all h fun c h1 h2 => (Bool.and_eq_true_iff.mp (az_sign c h1 h2)).1, Bool.and_true]
    exact decide_eq_true (by omega)
  have hc : PySem.Txt.islower z = true := by
    unfold PySem.Txt.islower
    have k1 : z.cps.any Unicode.isLower = true := by
      rw [← Array.any_toList]
      have m : z.cps.toList[0] ∈ z.cps.toList := List.getElem_mem pos
      exact List.any_eq_true.mpr ⟨_, m, (Bool.and_eq_true_iff.mp (Bool.and_eq_true_iff.mp (az_sign _ (h _ m).1 (h _ m).2)).2).1⟩
    have k2 : (z.cps.any fun c => Unicode.isUpper c || Unicode.isTitle c) = false := by
      rw [← Array.any_toList, List.any_eq_false]
      intro c hc
      have z4 := (Bool.and_eq_true_iff.mp (Bool.and_eq_true_iff.mp (az_sign _ (h _ hc).1 (h _ hc).2)).2).2
      obtain ⟨u1, u2⟩ := Bool.and_eq_true_iff.mp z4
      rw [Bool.not_eq_true'] at u1 u2
      rw [u1, u2]; simp
    rw [k1, k2]; rfl
  unfold wordB
  rw [decide_eq_true h8, ha, hb, hc]; rfl
/-- a word -/
def Wd (z : Str) : Prop := AZ z ∧ 1 ≤ z.length ∧ z.length ≤ 7
theorem Wd.ok {z : Str} (h : Wd z) : z.length ≤ sizeLine ∧ wordB z = true := ⟨by rw [sizeLine_eq]; have := h.2.2; omega, az_word h.1 h.2.1 (Nat.le_succ_of_le h.2.2)⟩
/-- the letter at a step -/
def stepC (f st : Int) (i : Nat) : Nat := 97 + ((f + st * (0 + (i : Int))) % 26).toNat
theorem stepC_inj {f st : Int} (h : st = 1 ∨ st = 3 ∨ st = 5 ∨ st = 7 ∨ st = 9 ∨ st = 11 ∨ st = 15 ∨ st = 17 ∨ st = 19 ∨ st = 21 ∨ st = 23 ∨ st = 25) {i j : Nat} (hi : i < 26) (hj : j < 26) (e : stepC f st i = stepC f st j) : i = j := by
  unfold stepC at e
  rcases h with rfl | rfl | rfl | rfl | rfl | rfl | rfl | rfl | rfl | rfl | rfl | rfl <;> omega
theorem mid_inj {a b : Str} {c d : Nat} (e : a ++ ⟨#[c]⟩ ++ b = a ++ ⟨#[d]⟩ ++ b) : c = d := by
  have z := congrArg (fun s : Str => s.cps.toList) e
  simp only [Str.cps_append, Array.toList_append] at z
  have z2 := List.append_cancel_right z
  have z3 := List.append_cancel_left z2
  simpa using z3
theorem nodup_steps {f st : Int} {hd tl : Str} (h : st = 1 ∨ st = 3 ∨ st = 5 ∨ st = 7 ∨ st = 9 ∨ st = 11 ∨ st = 15 ∨ st = 17 ∨ st = 19 ∨ st = 21 ∨ st = 23 ∨ st = 25) {n : Nat} (hn : n ≤ 26) : ((List.range n).map fun i => hd ++ (⟨#[stepC f st i]⟩ : Str) ++ tl).Nodup := by
  unfold List.Nodup
  rw [List.pairwise_map]
  refine List.Pairwise.imp_of_mem (fun {a b} ha hb lt e => ?_) List.pairwise_lt_range
  have z := stepC_inj h (by have := List.mem_range.mp ha; omega) (by have := List.mem_range.mp hb; omega) (mid_inj e)
  omega
def spWords : Sp := fun vs H Q _ => ∃ p n, vs = [.ref p, .int n] ∧ 0 ≤ n ∧ n ≤ 26 ∧ StA H p ∧ ∀ (l : Addr) (ws : List Str) (H' : Hp), H l = none → l ≠ p → ws.length = n.toNat → (∀ z ∈ ws, Wd z) → ws.Nodup → H' l = some (.lst (ws.map V.str)) → StA H' p → SameB p H H' → Q (.ref l) H'
def rowV (r : Kd) : List V := [.int r.g, oV r.a, sV r.s]
def KW (r : Kd) : Prop := ∀ z, r.s = some z → Wd z
section
variable {P : Program} {w : World} {K : PySem.W.Frag} {mg : Str → Option Value} {base : Heap} {C : Addr}
abbrev s_law_stream : Stmt := top 25
theorem sc_law_stream : FnScope ["script", "k", "cell", "size", "mixed"] ["script", "k"] (defScope s_law_stream) := ⟨rfl, rfl, rfl, by decide +kernel, rfl, by decide +kernel, by decide +kernel⟩
theorem ok_stream (D : DefK K mg "_law_stream" s_law_stream) (T : Txt K mg C) : Cal P w K mg base CX0 1 "_law_stream" (spStream K) := by
  refine D.cal sc_law_stream (fun _ _ _ _ _ _ us hl => match us, hl with | [_, _], _ => rfl) (fun vs H Q E h => ?_) fun f cdv A outer s H vs Q E hr h => ?_
  · obtain ⟨a, ns, k, rfl, _⟩ := h; rfl
  · obtain ⟨a, ns, k, rfl, hS, hk, q⟩ := h
    refine ⟨_, (pss_cons (ps_set (i := 2) sc_law_stream.nd rfl (Or.inl rfl) pe_int)
      (pss_cons (ps_if (pt_cmpR op_lt (pv 1) (pe_callB call_len_seq (by rfl) T.b_len (by decide +kernel) (pa_cons (pv 0) pa_nil)) (nomark _)) (pss_one (ps_set (i := 2) sc_law_stream.nd rfl (Or.inl rfl) (pe_ix (r := rIxL K) ix_list (pv 0) (pv 1) (fun _ _ => rfl)))) pss_nil)
      (pss_cons (ps_set (i := 3) sc_law_stream.nd rfl (Or.inl rfl) (pe_callB (call_max2 rfl) (by rfl) T.b_max (by decide +kernel) (pa_cons (pv 2) (pa_cons (pe_op op_sub (pe_un un_neg pe_int) (pv 2)) pa_nil))))
      (pss_cons (ps_set (i := 4) sc_law_stream.nd rfl (Or.inl rfl) (pe_op op_mod (pe_op op_mul (pe_op op_add (pe_op op_add (pe_op op_add (pe_op op_mod (pv 3) pe_int) (pe_op op_mul (pe_op op_mul pe_int (pv 1)) (pv 1))) (pe_op op_mul pe_int (pv 1))) pe_int) pe_int) pe_int))
      (pss_one (ps_ret (pe_lst (pa_cons (pe_op op_mul (pv 3) (pe_callTy call_int1 (by rfl) T.b_int (by decide +kernel) (pa_cons (pe_cmpR op_ge (pv 3) (pe_op op_pow pe_int pe_int) (nomark _)) pa_nil))) (pa_cons (pv 4) pa_nil))))))))), ?_⟩
    have kb : -(2 ^ 64 : Int) < (k : Int) ∧ (k : Int) < 2 ^ 64 := by omega
    refine ⟨_, rfl, _, rfl, a, _, rfl, .inl hS, _, _, rfl, rfl, _, rfl, ?_⟩
    rw [List.length_map]
    by_cases c : (k : Int) < (ns.length : Int)
    · rw [decide_eq_true c]
      have at_ : (ns.map V.int)[k]? = some (V.int (ns[k]'(by omega))) := by rw [List.getElem?_map, List.getElem?_eq_getElem (by omega)]; rfl
      refine iteT ⟨_, rfl, _, rfl, a, _, _, _, rfl, rfl, hS, atI_nat at_, ?_⟩
      walk_at "rd"
      exact ⟨by show 2 ≤ sizeLine; decide, fun p hp => q p _ _ hp (Int.mul_nonneg (by split <;> omega) (by split <;> omega))⟩
    · rw [decide_eq_false c]
      refine iteF ?_
      walk_at "rd"
      exact ⟨by show 2 ≤ sizeLine; decide, fun p hp => q p _ _ hp (Int.mul_nonneg (by split <;> omega) (by split <;> omega))⟩
abbrev s_law_draw : Stmt := top 26
theorem sc_law_draw : FnScope ["stream", "count", "result"] ["stream", "count"] (defScope s_law_draw) := ⟨rfl, rfl, rfl, by decide +kernel, rfl, by decide +kernel, by decide +kernel⟩
theorem ok_draw (D : DefK K mg "_law_draw" s_law_draw) : Cal P w K mg base CX0 1 "_law_draw" spDraw := by
  refine D.cal sc_law_draw (fun _ _ _ _ _ _ us hl => match us, hl with | [_, _], _ => rfl) (fun vs H Q E h => ?_) fun f cdv A outer s H vs Q E hr h => ?_
  · obtain ⟨p, a, b, n, rfl, _⟩ := h; rfl
  · obtain ⟨p, a, b, n, rfl, hp, ha, hn, hb, q⟩ := h
    have at0 : ∀ x y : Int, atI [V.int x, V.int y] 0 = some (V.int x) := fun _ _ => atI_nat (j := 0) rfl
    have at1 : ∀ x y : Int, atI [V.int x, V.int y] 1 = some (V.int y) := fun _ _ => atI_nat (j := 1) rfl
    have hw : CDivW a n := wide_div hn hb (by decide) (by decide)
    refine ⟨_, (pss_cons (ps_if (pt_cmpR op_gt (pe_ix (r := rIxL K) ix_list (pv 0) pe_int (fun _ _ => rfl)) pe_int (nomark _)) (pss_cons (ps_set (i := 2) sc_law_draw.nd rfl (Or.inl rfl) (pe_op op_mod (pe_ix (r := rIxL K) ix_list (pv 0) pe_int (fun _ _ => rfl)) (pv 1)))
      (pss_cons (ps_asg (pe_op op_fdivW (pe_ix (r := rIxL K) ix_list (pv 0) pe_int (fun _ _ => rfl)) (pv 1)) (pg_sub (pv 0) pe_int set_list))
      (pss_one (ps_ret (pv 2))))) pss_nil)
      (pss_cons (ps_asg (pe_op op_mod (pe_op op_add (pe_op op_mul (pe_ix (r := rIxL K) ix_list (pv 0) pe_int (fun _ _ => rfl)) pe_int) pe_int) pe_int) (pg_sub (pv 0) pe_int set_list))
      (pss_one (ps_ret (pe_op op_mod (pe_op op_fdiv (pe_op op_mod (pe_op op_mul (pe_ix (r := rIxL K) ix_list (pv 0) pe_int (fun _ _ => rfl)) (pe_ix (r := rIxL K) ix_list (pv 0) pe_int (fun _ _ => rfl))) pe_int) pe_int) (pv 1)))))), ?_⟩
    refine ⟨_, rfl, p, _, _, _, rfl, rfl, SqL.of hp, at0 _ _, _, _, rfl, rfl, _, rfl, ?_⟩
    by_cases c : 0 < a
    · rw [decide_eq_true c]
      refine iteT ⟨_, rfl, p, _, _, _, rfl, rfl, SqL.of hp, at0 _ _, _, rfl, _, _, rfl, rfl, hn, ?_⟩
      refine ⟨_, rfl, p, _, _, _, rfl, rfl, SqL.of hp, at0 _ _, _, rfl, _, _, rfl, rfl, hw, ?_⟩
      refine ⟨_, rfl, p, _, _, 0, rfl, rfl, hp, rfl, ?_⟩
      refine ⟨_, rfl, q _ _ _ (Int.emod_nonneg _ (by omega)) (Int.emod_lt_of_pos _ hn) (Int.ediv_nonneg ha (by omega))⟩
    · rw [decide_eq_false c]
      refine iteF ⟨_, rfl, p, _, _, _, rfl, rfl, SqL.of hp, at1 _ _, ?_⟩
      walk_at "rd"
      refine ⟨p, _, _, 1, rfl, rfl, hp, rfl, ?_⟩
      refine ⟨_, rfl, p, _, _, _, rfl, rfl, SqL.of upd_same, at1 _ _, _, rfl, p, _, _, _, rfl, rfl, SqL.of upd_same, at1 _ _, _, _, rfl, rfl, ?_⟩
      have m1 := Int.emod_nonneg (b * 39373 + 7) (show (2147483647 : Int) ≠ 0 by decide)
      have m2 := Int.emod_lt_of_pos (b * 39373 + 7) (show (0 : Int) < 2147483647 by decide)
      refine ⟨.inl ⟨by omega, by omega⟩, _, _, rfl, rfl, show (0 : Int) < _ by decide, _, _, rfl, rfl, ⟨by decide, by decide⟩, _, rfl, _, _, rfl, rfl, hn, ?_⟩
      exact q _ _ _ (Int.emod_nonneg _ (by omega)) (Int.emod_lt_of_pos _ hn) ha
abbrev s_law_choose : Stmt := top 27
theorem sc_law_choose : FnScope ["stream", "items"] ["stream", "items"] (defScope s_law_choose) := ⟨rfl, rfl, rfl, by decide +kernel, rfl, by decide +kernel, by decide +kernel⟩
theorem ok_choose (D : DefK K mg "_law_choose" s_law_choose) (T : Txt K mg C) (G_law_draw : Cal P w K mg base CX0 1 "_law_draw" spDraw) : Cal P w K mg base CX0 2 "_law_choose" (spChoose K) := by
  refine D.cal sc_law_choose (fun _ _ _ _ _ _ us hl => match us, hl with | [_, _], _ => rfl) (fun vs H Q E h => ?_) fun f cdv A outer s H vs Q E hr h => ?_
  · obtain ⟨p, l, a, b, rfl, _⟩ := h; rfl
  · obtain ⟨p, y, a, b, rfl, hp, ha, h⟩ := h
    refine ⟨_, (pss_one (ps_ret (pe_ix (r := rIx K) ix_seq (pv 1) (pe_c G_law_draw hr (by decide) rfl (pa_cons (pv 0) (pa_cons (pe_callB call_len (by rfl) T.b_len (by decide +kernel) (pa_cons (pv 1) pa_nil)) pa_nil))) (fun _ _ => rfl)))), ?_⟩
    rcases h with ⟨l, xs, rfl, hl, n, h0, h1, q⟩ | ⟨z, rfl, h0, h1, q⟩
    · refine ⟨_, rfl, _, rfl, _, rfl, .ref l, xs.length, rfl, .inl ⟨xs, hl, rfl⟩, p, a, b, _, rfl, hp, ha, by omega, i1000 (by omega) (by omega), fun v a' b' v0 v1 a0 => ?_⟩
      have hi : v.toNat < xs.length := by omega
      have ev : xs[v.toNat]? = some (xs[v.toNat]'hi) := List.getElem?_eq_getElem hi
      have ev2 : v = ((v.toNat : Nat) : Int) := by omega
      exact .inl ⟨l, xs, v, _, rfl, rfl, seq_upd hl n, at_of ev2 ev, q v.toNat _ a' b' ev a0⟩
    · have hz : z.length ≤ sizeLine := by rw [sizeLine_eq]; omega
      refine ⟨_, rfl, _, rfl, _, rfl, .str z, z.length, rfl, ⟨hz, rfl⟩, p, a, b, _, rfl, hp, ha, by omega, i1000 (by omega) (by omega), fun v a' b' v0 v1 a0 => ?_⟩
      obtain ⟨j, rfl⟩ : ∃ j : Nat, v = (j : Int) := ⟨v.toNat, by omega⟩
      have hi : j < z.cps.toList.length := by
        have e : z.length = z.cps.size := rfl
        rw [Array.length_toList]; omega
      have ev : z.cps.toList[j]? = some (z.cps.toList[j]'hi) := List.getElem?_eq_getElem hi
      exact .inr (.inr ⟨z, _, _, rfl, rfl, hz, atI_nat ev, q _ a' b' (List.getElem_mem hi) a0⟩)
abbrev s_law_words : Stmt := top 28
theorem sc_law_words : FnScope ["stream", "count", "letters", "head", "tail", "first", "step", "at", "turn"] ["stream", "count"] (defScope s_law_words) := ⟨rfl, rfl, rfl, by decide +kernel, rfl, by decide +kernel, by decide +kernel⟩
theorem ok_words (D : DefK K mg "_law_words" s_law_words) (T : Txt K mg C) (G_law_draw : Cal P w K mg base CX0 1 "_law_draw" spDraw) (G_law_choose : Cal P w K mg base CX0 2 "_law_choose" (spChoose K)) : Cal P w K mg base CX0 3 "_law_words" spWords := by
  refine D.cal sc_law_words (fun _ _ _ _ _ _ us hl => match us, hl with | [_, _], _ => rfl) (fun vs H Q E h => ?_) fun f cdv A outer s H vs Q E hr h => ?_
  · obtain ⟨p, n, rfl, _⟩ := h; rfl
  · obtain ⟨p, n, rfl, n0, n9, ⟨a, b, hp, ha⟩, k⟩ := h
    refine ⟨_, (pss_cons (ps_set (i := 2) sc_law_words.nd rfl (Or.inr rfl) pe_str)
      (pss_cons (ps_asg (pe_tup (pa_cons (pe_c G_law_draw hr (by decide) rfl (pa_cons (pv 0) (pa_cons pe_int pa_nil))) (pa_cons (pe_c G_law_choose hr (by decide) rfl (pa_cons (pv 0) (pa_cons (pe_lst (pa_cons pe_int (pa_cons pe_int (pa_cons pe_int (pa_cons pe_int (pa_cons pe_int (pa_cons pe_int (pa_cons pe_int (pa_cons pe_int (pa_cons pe_int (pa_cons pe_int (pa_cons pe_int (pa_cons pe_int pa_nil))))))))))))) pa_nil))) pa_nil))) (pg_tup rfl (pgs_cons (pg_name (i := 5) sc_law_words.nd rfl (Or.inr rfl)) (pgs_cons (pg_name (i := 6) sc_law_words.nd rfl (Or.inr rfl)) pgs_nil))))
      (pss_cons (ps_set (i := 3) sc_law_words.nd rfl (Or.inr rfl) (pe_join pe_str (pe_lc (own := [("turn", 8)]) (g := gName 8) (by rfl) sc_law_words.nd (pi_range1 (by rfl) T.b_range (pa_cons (pe_c G_law_draw hr (by decide) rfl (pa_cons (pv 0) (pa_cons pe_int pa_nil))) pa_nil)) (blkOk_by (own := [("turn", 8)]) (N := ["stream", "count", "letters", "head", "tail", "first", "step", "at", "turn"]) (sc := defScope s_law_words) (by decide +kernel)) (fun _ _ _ _ _ => pg_name (i := 8) sc_law_words.nd rfl (Or.inl rfl)) (fun _ _ _ _ _ => pts_nil) (fun _ _ _ _ _ => (pe_c G_law_choose hr (by decide) rfl (pa_cons (pv 0) (pa_cons (pv 2) pa_nil)))))))
      (pss_cons (ps_set (i := 4) sc_law_words.nd rfl (Or.inr rfl) (pe_join pe_str (pe_lc (own := [("turn", 8)]) (g := gName 8) (by rfl) sc_law_words.nd (pi_range1 (by rfl) T.b_range (pa_cons (pe_c G_law_draw hr (by decide) rfl (pa_cons (pv 0) (pa_cons pe_int pa_nil))) pa_nil)) (blkOk_by (own := [("turn", 8)]) (N := ["stream", "count", "letters", "head", "tail", "first", "step", "at", "turn"]) (sc := defScope s_law_words) (by decide +kernel)) (fun _ _ _ _ _ => pg_name (i := 8) sc_law_words.nd rfl (Or.inl rfl)) (fun _ _ _ _ _ => pts_nil) (fun _ _ _ _ _ => (pe_c G_law_choose hr (by decide) rfl (pa_cons (pv 0) (pa_cons (pv 2) pa_nil)))))))
      (pss_one (ps_ret (pe_lc (own := [("at", 7)]) (g := gName 7) (by rfl) sc_law_words.nd (pi_range1 (by rfl) T.b_range (pa_cons (pv 1) pa_nil)) (blkOk_by (own := [("at", 7)]) (N := ["stream", "count", "letters", "head", "tail", "first", "step", "at", "turn"]) (sc := defScope s_law_words) (by decide +kernel)) (fun _ _ _ _ _ => pg_name (i := 7) sc_law_words.nd rfl (Or.inl rfl)) (fun _ _ _ _ _ => pts_nil) (fun _ _ _ _ _ => (pe_op op_add_str (pe_op op_add_str (pv 3) (pe_ix (r := rIxS) ix_str (pv 2) (pe_op op_mod (pe_op op_add (pv 5) (pe_op op_mul (pv 6) (pv 7))) pe_int) (fun _ _ => rfl))) (pv 4)))))))))), ?_⟩
    refine ⟨_, rfl, p, a, b, 26, rfl, hp, ha, by decide, by decide +kernel, fun f1 a1 b1 f0 f26 ha1 => ?_⟩
    have s1 := SameB.mut (o := .lst [.int a1, .int b1]) (SameB.refl p H)
    refine ⟨_, rfl, by show 12 ≤ sizeLine; decide, fun l nl => ?_⟩
    have st1 : StA (upd H p (.lst [.int a1, .int b1])) p := ⟨a1, b1, upd_same, ha1⟩
    have lp := st1.ne nl
    refine ⟨p, .ref l, a1, b1, rfl, by rw [upd_ne lp.symm, upd_same], ha1, .inl ⟨l, _, rfl, SqL.of upd_same, lp, by show 0 < 12; decide, by show 12 < 1000; decide, fun j v a2 b2 hv ha2 => ?_⟩⟩
    have hs : ∃ n, v = V.int n ∧ (0 < n ∧ n < 26) ∧ (n = 1 ∨ n = 3 ∨ n = 5 ∨ n = 7 ∨ n = 9 ∨ n = 11 ∨ n = 15 ∨ n = 17 ∨ n = 19 ∨ n = 21 ∨ n = 23 ∨ n = 25) := by
      match j, hv with
      | 0, hv => cases hv; exact ⟨_, rfl, ⟨by decide, by decide⟩, by decide⟩
      | 1, hv => cases hv; exact ⟨_, rfl, ⟨by decide, by decide⟩, by decide⟩
      | 2, hv => cases hv; exact ⟨_, rfl, ⟨by decide, by decide⟩, by decide⟩
      | 3, hv => cases hv; exact ⟨_, rfl, ⟨by decide, by decide⟩, by decide⟩
      | 4, hv => cases hv; exact ⟨_, rfl, ⟨by decide, by decide⟩, by decide⟩
      | 5, hv => cases hv; exact ⟨_, rfl, ⟨by decide, by decide⟩, by decide⟩
      | 6, hv => cases hv; exact ⟨_, rfl, ⟨by decide, by decide⟩, by decide⟩
      | 7, hv => cases hv; exact ⟨_, rfl, ⟨by decide, by decide⟩, by decide⟩
      | 8, hv => cases hv; exact ⟨_, rfl, ⟨by decide, by decide⟩, by decide⟩
      | 9, hv => cases hv; exact ⟨_, rfl, ⟨by decide, by decide⟩, by decide⟩
      | 10, hv => cases hv; exact ⟨_, rfl, ⟨by decide, by decide⟩, by decide⟩
      | 11, hv => cases hv; exact ⟨_, rfl, ⟨by decide, by decide⟩, by decide⟩
      | j + 12, hv => cases hv
    obtain ⟨st, rfl, ⟨st0, st26⟩, odd⟩ := hs
    have s2 := (s1.new (o := .lst [.int 1, .int 3, .int 5, .int 7, .int 9, .int 11, .int 15, .int 17, .int 19, .int 21, .int 23, .int 25]) nl).mut (o := .lst [.int a2, .int b2])
    refine ⟨by show 2 ≤ sizeLine; decide, fun tp ntp => ?_⟩
    have s3 := s2.new (o := .tup [.int f1, .int st]) ntp
    have tpp : tp ≠ p := fun z => by rw [z, upd_same] at ntp; cases ntp
    refine ⟨tp, _, rfl, SqT.of upd_same, rfl, _, _, rfl, _, _, rfl, rfl, ?_⟩
    have hp3 : (upd (upd (upd (upd H p (.lst [.int a1, .int b1])) l (.lst [.int 1, .int 3, .int 5, .int 7, .int 9, .int 11, .int 15, .int 17, .int 19, .int 21, .int 23, .int 25])) p (.lst [.int a2, .int b2])) tp (.tup [.int f1, .int st])) p = some (.lst [.int a2, .int b2]) := by rw [upd_ne tpp.symm, upd_same]
    revert s3 hp3
    generalize upd (upd (upd (upd H p (.lst [.int a1, .int b1])) l (.lst [.int 1, .int 3, .int 5, .int 7, .int 9, .int 11, .int 15, .int 17, .int 19, .int 21, .int 23, .int 25])) p (.lst [.int a2, .int b2])) tp (.tup [.int f1, .int st]) = H3
    intro s3 hp3
    -- head
    refine ⟨⟨_, rfl⟩, _, rfl, p, a2, b2, 4, rfl, hp3, ha2, by decide, by decide +kernel, fun n1 a3 b3 n10 n14 ha3 => ?_⟩
    refine ⟨n1, rfl, by omega, by omega, fun D nD => ?_⟩
    have st3 : StA (upd H3 p (.lst [.int a3, .int b3])) p := ⟨a3, b3, upd_same, ha3⟩
    have Dp := st3.ne nD
    refine lc_range (lo := 0) (n := n1.toNat) (fun i H' => ∃ ys : List Str, H' D = some (.lst (ys.map V.str)) ∧ Ones ys ∧ ys.length = i ∧ StA H' p ∧ SameB p H H') ⟨[], upd_same, (fun z hz => by cases hz), rfl, ⟨a3, b3, by rw [upd_ne Dp.symm, upd_same], ha3⟩, (s3.mut).new nD⟩ (fun i H4 hi ⟨ys, hD, ho, hl, ⟨a4, b4, hp4, ha4⟩, s4⟩ => ?_) (fun H4 ⟨ys, hD, ho, hl, ⟨a4, b4, hp4, ha4⟩, s4⟩ => ?_)
    · refine ⟨rfl, ?_⟩
      refine yes_if ?_
      refine ⟨_, rfl, _, rfl, p, .str letters, a4, b4, rfl, hp4, ha4, .inr ⟨letters, rfl, by rw [letters_len]; decide, by rw [letters_len]; decide, fun c a5 b5 hc ha5 => ?_⟩⟩
      refine ⟨ys.map V.str, by rw [upd_ne Dp]; exact hD, ?_, ys ++ [⟨#[c]⟩], ?_, ?_, ?_, ⟨a5, b5, by rw [upd_ne Dp.symm, upd_same], ha5⟩, ?_⟩
      · rw [List.length_map, sizeLine_eq]; omega
      · rw [upd_same, List.map_append]; rfl
      · intro z hz
        rcases List.mem_append.mp hz with hz | hz
        · exact ho z hz
        · have e : z = ⟨#[c]⟩ := by simpa using hz
          rw [e]
          exact ⟨az_one (letters_az c hc), rfl⟩
      · rw [List.length_append, hl]; rfl
      · intro q o e n
        have nqD : q ≠ D := fun z => by
          have z1 := (s3.mut (o := .lst [.int a3, .int b3])) q o e n
          rw [z, nD] at z1; cases z1
        rw [upd_ne nqD, upd_ne n]
        exact s4 q o e n
    obtain ⟨hz1, hl1⟩ := join_az ys ho
    refine ⟨_, D, ys, rfl, rfl, .inl (SqL.of hD), by rw [ones_sum ys ho]; show ys.length + ys.length * 0 ≤ _; omega, ?_⟩
    have e0 : Str.ofString "" = Str.empty := by decide +kernel
    have ej : PySem.Txt.join (Str.ofString "") ys = Str.join Str.empty ys := by rw [e0]; exact StrLaws.glued_eq_join _ _
    have hz1' : AZ (PySem.Txt.join (Str.ofString "") ys) := ej ▸ hz1
    have hl1' : (PySem.Txt.join (Str.ofString "") ys).length ≤ 3 := by rw [ej, hl1]; omega
    clear hz1 hl1 ej
    revert hz1' hl1'
    show AZ (PySem.Txt.join (Str.ofString "") ys) → (PySem.Txt.join (Str.ofString "") ys).length ≤ 3 → _
    generalize PySem.Txt.join (Str.ofString "") ys = hd
    intro hz1 hl1
    -- tail
    have sD : SameB p H H4 := s4
    clear st3 nD
    refine ⟨⟨_, rfl⟩, _, rfl, p, a4, b4, 4, rfl, hp4, ha4, by decide, by decide +kernel, fun n2 a6 b6 n20 n24 ha6 => ?_⟩
    refine ⟨n2, rfl, by omega, by omega, fun D2 nD2 => ?_⟩
    have st6 : StA (upd H4 p (.lst [.int a6, .int b6])) p := ⟨a6, b6, upd_same, ha6⟩
    have Dp2 := st6.ne nD2
    refine lc_range (lo := 0) (n := n2.toNat) (fun i H' => ∃ ys : List Str, H' D2 = some (.lst (ys.map V.str)) ∧ Ones ys ∧ ys.length = i ∧ StA H' p ∧ SameB p H H') ⟨[], upd_same, (fun z hz => by cases hz), rfl, ⟨a6, b6, by rw [upd_ne Dp2.symm, upd_same], ha6⟩, (sD.mut).new nD2⟩ (fun i H5 hi ⟨ys, hD, ho, hl, ⟨a7, b7, hp7, ha7⟩, s5⟩ => ?_) (fun H5 ⟨ys, hD, ho, hl, ⟨a7, b7, hp7, ha7⟩, s5⟩ => ?_)
    · refine ⟨rfl, ?_⟩
      refine yes_if ?_
      refine ⟨_, rfl, _, rfl, p, .str letters, a7, b7, rfl, hp7, ha7, .inr ⟨letters, rfl, by rw [letters_len]; decide, by rw [letters_len]; decide, fun c a5 b5 hc ha5 => ?_⟩⟩
      refine ⟨ys.map V.str, by rw [upd_ne Dp2]; exact hD, ?_, ys ++ [⟨#[c]⟩], ?_, ?_, ?_, ⟨a5, b5, by rw [upd_ne Dp2.symm, upd_same], ha5⟩, ?_⟩
      · rw [List.length_map, sizeLine_eq]; omega
      · rw [upd_same, List.map_append]; rfl
      · intro z hz
        rcases List.mem_append.mp hz with hz | hz
        · exact ho z hz
        · have e : z = ⟨#[c]⟩ := by simpa using hz
          rw [e]
          exact ⟨az_one (letters_az c hc), rfl⟩
      · rw [List.length_append, hl]; rfl
      · intro q o e n
        have nqD : q ≠ D2 := fun z => by
          have z1 := (sD.mut (o := .lst [.int a6, .int b6])) q o e n
          rw [z, nD2] at z1; cases z1
        rw [upd_ne nqD, upd_ne n]
        exact s5 q o e n
    obtain ⟨hz2, hl2⟩ := join_az ys ho
    refine ⟨_, D2, ys, rfl, rfl, .inl (SqL.of hD), by rw [ones_sum ys ho]; show ys.length + ys.length * 0 ≤ _; omega, ?_⟩
    have e0 : Str.ofString "" = Str.empty := by decide +kernel
    have ej : PySem.Txt.join (Str.ofString "") ys = Str.join Str.empty ys := by rw [e0]; exact StrLaws.glued_eq_join _ _
    have hz2' : AZ (PySem.Txt.join (Str.ofString "") ys) := ej ▸ hz2
    have hl2' : (PySem.Txt.join (Str.ofString "") ys).length ≤ 3 := by rw [ej, hl2]; omega
    clear hz2 hl2 ej
    revert hz2' hl2'
    show AZ (PySem.Txt.join (Str.ofString "") ys) → (PySem.Txt.join (Str.ofString "") ys).length ≤ 3 → _
    generalize PySem.Txt.join (Str.ofString "") ys = tl
    intro hz2 hl2
    -- the words
    refine ⟨_, rfl, n, rfl, by omega, by omega, fun l3 nl3 => ?_⟩
    have stE : StA H5 p := ⟨a7, b7, hp7, ha7⟩
    have lp3 := stE.ne nl3
    have nlH : H l3 = none := by
      cases e : H l3 with
      | none => rfl
      | some o =>
        have z := s5 l3 o e lp3
        rw [nl3] at z; cases z
    refine lc_range (lo := 0) (n := n.toNat) (fun i H' => ∃ ws : List Str, H' = upd H5 l3 (.lst (ws.map V.str)) ∧ (∀ z ∈ ws, Wd z) ∧ ws.length = i ∧ ws = (List.range i).map fun i => hd ++ (⟨#[stepC f1 st i]⟩ : Str) ++ tl) ⟨[], rfl, (fun z hz => by cases hz), rfl, rfl⟩ (fun i H6 hi ⟨ws, e6, hw, hl, ew⟩ => ?_) (fun H6 ⟨ws, e6, hw, hl, ew⟩ => ?_)
    · subst e6
      refine ⟨rfl, ?_⟩
      refine yes_if ?_
      have m0 := Int.emod_nonneg (f1 + st * (0 + (i : Int))) (show (26 : Int) ≠ 0 by decide)
      have m1 := Int.emod_lt_of_pos (f1 + st * (0 + (i : Int))) (show (0 : Int) < 26 by decide)
      obtain ⟨j, ej⟩ : ∃ j : Nat, (f1 + st * (0 + (i : Int))) % 26 = (j : Int) := ⟨((f1 + st * (0 + (i : Int))) % 26).toNat, by omega⟩
      have hj : j < letters.cps.toList.length := by
        have e : letters.cps.toList.length = 26 := by decide +kernel
        omega
      have ev : letters.cps.toList[j]? = some (letters.cps.toList[j]'hj) := List.getElem?_eq_getElem hj
      have hc := letters_az _ (List.getElem_mem hj)
      refine ⟨_, rfl, _, rfl, _, rfl, _, rfl, _, rfl, st, _, rfl, rfl, .inl ⟨by omega, by omega⟩, f1, _, rfl, rfl, _, _, rfl, rfl, (by show (0 : Int) < 26; decide), ?_⟩
      refine ⟨letters, _, _, rfl, rfl, by rw [letters_len, sizeLine_eq]; decide, by rw [ej]; exact atI_nat ev, ?_⟩
      have l1 : (⟨#[letters.cps.toList[j]'hj]⟩ : Str).length = 1 := rfl
      refine ⟨hd, _, rfl, rfl, by rw [l1, sizeLine_eq]; omega, _, rfl, _, tl, rfl, rfl, by rw [Str.length_append, l1, sizeLine_eq]; omega, ?_⟩
      refine ⟨ws.map V.str, upd_same, by rw [List.length_map, sizeLine_eq]; omega, ws ++ [hd ++ ⟨#[letters.cps.toList[j]'hj]⟩ ++ tl], ?_, ?_, ?_, ?_⟩
      · rw [upd_upd, List.map_append]; rfl
      · intro z hz
        rcases List.mem_append.mp hz with hz | hz
        · exact hw z hz
        · have e : z = hd ++ ⟨#[letters.cps.toList[j]'hj]⟩ ++ tl := by simpa using hz
          rw [e]
          refine ⟨az_app (az_app hz1 (az_one hc)) hz2, ?_, ?_⟩
          · rw [Str.length_append, Str.length_append, l1]; omega
          · rw [Str.length_append, Str.length_append, l1]; omega
      · rw [List.length_append, hl]; rfl
      · have lj : letters.cps.toList[j]'hj = 97 + j := by
          have all : ∀ i, (hi : i < letters.cps.toList.length) → letters.cps.toList[i]'hi = 97 + i := by decide +kernel
          exact all j hj
        have sj : stepC f1 st i = 97 + j := by unfold stepC; rw [ej]; rfl
        rw [List.range_succ, List.map_append, ← ew, lj]
        show _ = ws ++ [hd ++ ⟨#[stepC f1 st i]⟩ ++ tl]
        rw [sj]
    · subst e6
      exact k l3 ws _ nlH lp3 hl hw (ew ▸ nodup_steps odd (by omega)) upd_same ⟨a7, b7, by rw [upd_ne lp3.symm]; exact hp7, ha7⟩ (s5.new nl3)
end

end K14

namespace K14
open PySem PySem.Spec PyProof.Rows L2 Jg
local macro_rules | `(tactic| walk_at "rd1") => `(tactic| (first
  | refine ⟨_, rfl, ?_⟩
  | refine ⟨_, _, rfl, rfl, ?_⟩
  | refine ⟨_, _, rfl, ?_⟩
  | refine ⟨rfl, ?_⟩
  | (refine ⟨show (0 : Int) < _ by omega, ?_⟩)
  | (refine ⟨Or.inl ⟨by omega, by omega⟩, ?_⟩)
  | (refine ⟨Or.inr ⟨by omega, by omega⟩, ?_⟩)
  | (refine ⟨(⟨by decide, by decide, by decide⟩ : CPow _ _), ?_⟩)
  | refine Or.inl ⟨_, rfl, ?_⟩
  | refine Or.inr ⟨_, rfl, ?_⟩
  | fail "rd"))
local macro_rules | `(tactic| walk_at "rd") => `(tactic| repeat' walk_at "rd1")


theorem same_kat {C : Addr} {H H' : Hp} {p : Addr} {r : Kd} (e : Same H H') (h : KAt C H p r) : KAt C H' p r :=
  let ⟨dx, h⟩ := h
  ⟨dx, e _ _ h⟩
def spPrp (C : Addr) (g : Kd → V) : Sp := fun vs H Q _ => ∃ p r, vs = [.ref p] ∧ KAt C H p r ∧ Q (g r) H
def g3 : List V → List V → List V := fun vs zs => vs ++ zs
/-- the kinds under their names: name, what it tells, where it stands -/
abbrev Ks := List (Str × Kd × Addr)
def kvs (ks : Ks) : List (Key × V) := ks.map fun e => (Sum.inr e.1, V.ref e.2.2)
def Kds (C : Addr) (H : Hp) (d : Addr) (ks : Ks) : Prop := Rd H d (.dK (kvs ks)) ∧ ∀ e ∈ ks, KAt C H e.2.2 e.2.1 ∧ KOk e.2.1
def kdOf (ks : Ks) (z : Str) : Option (Str × Kd × Addr) := ks.find? fun e => e.1 = z
def srcOf (ks : Ks) (z : Str) : Option Str := (kdOf ks z).bind fun e => e.2.1.s
/-- every source is there -/
def Fed (ks : Ks) : Prop := ∀ e ∈ ks, ∀ z, e.2.1.s = some z → z ∈ ks.map (·.1)
def chainB (ks : Ks) : Nat → List Str → Option Str → List Str
  | 0, acc, _ => acc
  | _ + 1, acc, none => acc
  | n + 1, acc, some z => chainB ks n (z :: acc) (srcOf ks z)
def chainF (ks : Ks) (z : Str) : List Str := chainB ks 4 [z] (srcOf ks z)
theorem Kds.keep {C : Addr} {H H' : Hp} {d : Addr} {ks : Ks} (h : Kds C H d ks) (s : Same H H') : Kds C H' d ks := ⟨h.1.elim (fun e => .inl (s _ _ e)) (fun ⟨o, e⟩ => .inr ⟨o, s _ _ e⟩), fun e he => ⟨same_kat s (h.2 e he).1, (h.2 e he).2⟩⟩
theorem kd_mem {ks : Ks} {z : Str} (h : z ∈ ks.map (·.1)) : ∃ e, kdOf ks z = some e ∧ e ∈ ks ∧ e.1 = z := by
  obtain ⟨e, he, ez⟩ := List.mem_map.mp h
  cases c : kdOf ks z with
  | none => exact absurd (decide_eq_true ez) (by have := List.find?_eq_none.mp c e he; simpa using this)
  | some o => exact ⟨o, rfl, List.mem_of_find?_eq_some c, by simpa using List.find?_some c⟩
theorem kd_val : ∀ (ks : Ks) (z : Str), valV (kvs ks) (Sum.inr z) = (kdOf ks z).map fun e => V.ref e.2.2 := by
  intro ks z
  unfold valV kvs kdOf
  rw [List.find?_map, Option.map_map]
  have e : ((fun kv : Key × V => decide (kv.1 = Sum.inr z)) ∘ fun e : Str × Kd × Addr => ((Sum.inr e.1 : Key), V.ref e.2.2)) = fun e => decide (e.1 = z) := by
    funext e
    show decide ((Sum.inr e.1 : Key) = Sum.inr z) = decide (e.1 = z)
    exact key_rr e.1 z
  rw [e]
  rfl
theorem dget {C : Addr} {H : Hp} {d : Addr} {ks : Ks} {z : Str} {e : Str × Kd × Addr} (kd : Kds C H d ks) (h : kdOf ks z = some e) : DGet H d (.str z) (some (.ref e.2.2)) := by
  have q : DGet H d (.str z) (valV (kvs ks) (Sum.inr z)) := .inl ⟨kvs ks, Sum.inr z, kd.1, rfl, rfl⟩
  rw [kd_val, h] at q
  exact q
theorem chainB_none (ks : Ks) (m : Nat) (acc : List Str) : chainB ks m acc none = acc := by cases m <;> rfl
def spCopied (C : Addr) : Sp := fun vs H Q _ => ∃ p r, vs = [.ref p] ∧ KAt C H p r ∧ KOk r ∧ ∀ x H', H x = none → Same H H' → KAt C H' x r → Q (.ref x) H'
def spChain (C : Addr) : Sp := fun vs H Q _ => ∃ d z ks, vs = [.ref d, .str z] ∧ Kds C H d ks ∧ Fed ks ∧ z ∈ ks.map (·.1) ∧ ∀ l H', H l = none → Same H H' → H' l = some (.lst ((chainF ks z).map V.str)) → Q (.ref l) H'
section
variable {P : Program} {w : World} {K : PySem.W.Frag} {mg : Str → Option Value} {base : Heap} {C CI CU F : Addr}
abbrev s_Kind_gap : Stmt := inClass (top 22) 1
theorem sc_Kind_gap : FnScope ["self"] ["self"] (defScope s_Kind_gap) := ⟨rfl, rfl, rfl, by decide +kernel, rfl, by decide +kernel, by decide +kernel⟩
theorem ok_gap (D : PrpK K C "gap" "Kind.gap" s_Kind_gap) (T : Txt K mg C) : Prp P w K mg base CX0 1 C "gap" (spPrp C fun r => .int r.g) := by
  refine D.prp sc_Kind_gap (fun _ _ _ _ _ _ us hl => match us, hl with | [_], _ => rfl) (fun vs H Q E h => ?_) fun f cdv A outer s H vs Q E hr h => ?_
  · obtain ⟨p, r, rfl, _⟩ := h; rfl
  · obtain ⟨p, r, rfl, ⟨dx, hp⟩, k⟩ := h
    exact ⟨_, (pss_one (ps_ret (pe_fld (pv 0) rfl))), _, rfl, p, C, dx, _, _, rfl, hp, T.cl, T.ng, get_g _ _ _, k⟩
abbrev s_Kind_age : Stmt := inClass (top 22) 3
theorem sc_Kind_age : FnScope ["self"] ["self"] (defScope s_Kind_age) := ⟨rfl, rfl, rfl, by decide +kernel, rfl, by decide +kernel, by decide +kernel⟩
theorem ok_age (D : PrpK K C "age" "Kind.age" s_Kind_age) (T : Txt K mg C) : Prp P w K mg base CX0 1 C "age" (spPrp C fun r => oV r.a) := by
  refine D.prp sc_Kind_age (fun _ _ _ _ _ _ us hl => match us, hl with | [_], _ => rfl) (fun vs H Q E h => ?_) fun f cdv A outer s H vs Q E hr h => ?_
  · obtain ⟨p, r, rfl, _⟩ := h; rfl
  · obtain ⟨p, r, rfl, ⟨dx, hp⟩, k⟩ := h
    exact ⟨_, (pss_one (ps_ret (pe_fld (pv 0) rfl))), _, rfl, p, C, dx, _, _, rfl, hp, T.cl, T.na, get_a _ _ _, k⟩
abbrev s_Kind_source : Stmt := inClass (top 22) 5
theorem sc_Kind_source : FnScope ["self"] ["self"] (defScope s_Kind_source) := ⟨rfl, rfl, rfl, by decide +kernel, rfl, by decide +kernel, by decide +kernel⟩
theorem ok_source (D : PrpK K C "source" "Kind.source" s_Kind_source) (T : Txt K mg C) : Prp P w K mg base CX0 1 C "source" (spPrp C fun r => sV r.s) := by
  refine D.prp sc_Kind_source (fun _ _ _ _ _ _ us hl => match us, hl with | [_], _ => rfl) (fun vs H Q E h => ?_) fun f cdv A outer s H vs Q E hr h => ?_
  · obtain ⟨p, r, rfl, _⟩ := h; rfl
  · obtain ⟨p, r, rfl, ⟨dx, hp⟩, k⟩ := h
    exact ⟨_, (pss_one (ps_ret (pe_fld (pv 0) rfl))), _, rfl, p, C, dx, _, _, rfl, hp, T.cl, T.ns, get_s _ _ _, k⟩
abbrev s_copied : Stmt := top 20
theorem sc_copied : FnScope ["kind"] ["kind"] (defScope s_copied) := ⟨rfl, rfl, rfl, by decide +kernel, rfl, by decide +kernel, by decide +kernel⟩
theorem ok_copied (D : DefK K mg "_copied" s_copied) (T : Txt K mg C) (M_Kind : MakW P w K mg base (L2.CX P w) 5 "Kind" C ["gap", "age", "source"] g3 (spKInit K C CI)) (G_gap : Prp P w K mg base CX0 1 C "gap" (spPrp C fun r => .int r.g)) (G_age : Prp P w K mg base CX0 1 C "age" (spPrp C fun r => oV r.a)) (G_source : Prp P w K mg base CX0 1 C "source" (spPrp C fun r => sV r.s)) : Cal P w K mg base CX0 7 "_copied" (spCopied C) := by
  refine D.cal sc_copied (fun _ _ _ _ _ _ us hl => match us, hl with | [_], _ => rfl) (fun vs H Q E h => ?_) fun f cdv A outer s H vs Q E hr h => ?_
  · obtain ⟨p, r, rfl, _⟩ := h; rfl
  · obtain ⟨p, r, rfl, hp, ok, k⟩ := h
    obtain ⟨dp, ep⟩ := id hp
    refine ⟨_, (pss_one (ps_ret (pe_mkKS M_Kind takes0 hr (by decide) rfl (pk_cons (pe_p G_gap T.cl hr (by decide) (pv 0)) (pk_cons (pe_p G_age T.cl hr (by decide) (pv 0)) (pk_cons (pe_p G_source T.cl hr (by decide) (pv 0)) pk_nil)))))), ?_⟩
    refine ⟨_, rfl, p, dp, _, rfl, ep, p, r, rfl, hp, _, rfl, p, dp, _, rfl, ep, p, r, rfl, hp, _, rfl, p, dp, _, rfl, ep, p, r, rfl, hp, rfl, fun x dx nx ndx nex => ?_⟩
    have s1 : Same H (upd (upd H dx (.own x)) x (.ins C dx [])) := same_new' (same_new ndx) (by rw [upd_ne (Ne.symm nex)]; exact nx)
    exact ⟨x, dx, _, _, _, H, rfl, upd_same, s1, nx, .inl ⟨r, rfl, rfl, rfl, ok, fun H' ka kp => ⟨rfl, k x H' nx (Same.made nx ndx kp) ka⟩⟩⟩
abbrev s_chain_to : Stmt := top 21
theorem sc_chain_to : FnScope ["kinds", "name", "names", "source"] ["kinds", "name"] (defScope s_chain_to) := ⟨rfl, rfl, rfl, by decide +kernel, rfl, by decide +kernel, by decide +kernel⟩
theorem ok_chain_to (D : DefK K mg "_chain_to" s_chain_to) (T : Txt K mg C) (TF : FTx K mg F) (G_source : Prp P w K mg base CX0 1 C "source" (spPrp C fun r => sV r.s)) : Cal P w K mg base CX0 3 "_chain_to" (spChain C) := by
  refine D.cal sc_chain_to (fun _ _ _ _ _ _ us hl => match us, hl with | [_, _], _ => rfl) (fun vs H Q E h => ?_) fun f cdv A outer s H vs Q E hr h => ?_
  · obtain ⟨d, z, ks, rfl, _⟩ := h; rfl
  · obtain ⟨d, z, ks, rfl, kd, fed, mem, k⟩ := h
    have hu1 : (A.deeper (envOfC "_chain_to" (defScope s_chain_to) s.heap.objs.size f cdv)).units + 1 < cLine := Nat.lt_of_le_of_lt (Nat.add_le_add_left (by decide : 1 ≤ 64) _) hr.units
    refine ⟨_, (pss_cons (ps_set (i := 2) sc_chain_to.nd rfl (Or.inl rfl) (pe_lst (pa_cons (pv 1) pa_nil)))
      (pss_cons (ps_set (i := 3) sc_chain_to.nd rfl (Or.inl rfl) (pe_p G_source T.cl hr (by decide) (pe_dget hu1 (pv 0) (pv 1) (fun _ _ => rfl))))
      (pss_cons (ps_while PassesOwn.never (PW.pt (pw_and (pt_cmpR op_notN (pv 3) pe_non (nomark _)) (pw_and1 (pt_cmpR op_le (pe_callB call_len_seq (by rfl) T.b_len (by decide +kernel) (pa_cons (pv 2) pa_nil)) (pe_gc rfl T.g_LONGEST_CHAIN) (nomark _))))) (pss_cons (ps_set (i := 2) sc_chain_to.nd rfl (Or.inl rfl) (pe_lst (pa_cons (pv 3) (StX.pa_star (pv 2) pa_nil))))
      (pss_one (ps_set (i := 3) sc_chain_to.nd rfl (Or.inl rfl) (pe_p G_source T.cl hr (by decide) (pe_dget hu1 (pv 0) (pv 3) (fun _ _ => rfl)))))))
      (pss_one (ps_ret (pv 2)))))), ?_⟩
    obtain ⟨e0, k0, m0, z0⟩ := kd_mem mem
    obtain ⟨⟨x0, a0⟩, o0⟩ := kd.2 e0 m0
    refine ⟨_, rfl, by show 1 ≤ sizeLine; decide, fun l nl => ?_⟩
    have s1 := same_new (o := .lst [V.str z]) nl
    have kd1 := kd.keep s1
    refine ⟨_, rfl, _, rfl, d, .ref e0.2.2, rfl, dget kd1 k0, e0.2.2, x0, _, rfl, s1 _ _ a0, e0.2.2, e0.2.1, rfl, ⟨x0, s1 _ _ a0⟩, ?_⟩
    have srcM : ∀ e ∈ ks, ∀ y, e.2.1.s = some y → y ∈ ks.map (·.1) := fed
    refine ⟨fun m σ H' => ∃ (lq : Addr) (acc : List Str) (so : Option Str), σ = [some (V.ref d), some (V.str z), some (V.ref lq), some (sV so)] ∧ H' lq = some (.lst (acc.map V.str)) ∧ H lq = none ∧ Same H H' ∧ acc.length + m = 5 ∧ chainB ks m acc so = chainF ks z ∧ (∀ y, so = some y → y ∈ ks.map (·.1)), ⟨4, l, [z], e0.2.1.s, rfl, upd_same, nl, s1, rfl, ?_, srcM e0 m0⟩, ?_⟩
    · unfold chainF srcOf
      rw [k0]
      rfl
    · rintro m σ H' ⟨lq, acc, so, rfl, hl, nq, sH, ln, ch, sm⟩
      have kdH := kd.keep sH
      cases so with
      | none =>
        rw [chainB_none] at ch
        exact ⟨_, rfl, rfl, _, rfl, iteF (iteF ⟨_, rfl, k lq H' nq sH (by rw [hl, ch])⟩)⟩
      | some y =>
        refine ⟨_, rfl, rfl, _, rfl, iteT ⟨_, rfl, lq, _, rfl, .inl (SqL.of hl), _, _, rfl, rfl, _, rfl, ?_⟩⟩
        rw [List.length_map]
        cases m with
        | zero =>
          rw [decide_eq_false (by omega)]
          exact iteF ⟨_, rfl, k lq H' nq sH (by rw [hl, ← ch]; rfl)⟩
        | succ m =>
          rw [decide_eq_true (by omega)]
          obtain ⟨e1, k1, m1, z1⟩ := kd_mem (sm y rfl)
          obtain ⟨⟨x1, a1⟩, o1⟩ := kdH.2 e1 m1
          refine iteT ⟨_, fun σ' H'' w => ⟨m, Nat.lt_succ_self m, w⟩, _, rfl, _, rfl, lq, _, rfl, .inr (SqL.of hl), ?_, fun l2 nl2 => ?_⟩
          · rw [List.append_nil, List.length_cons, List.length_map, sizeLine_eq]; omega
          · have s2 := same_new (o := .lst (V.str y :: (acc.map V.str ++ []))) nl2
            have sH2 := sH.trans s2
            refine ⟨_, rfl, _, rfl, d, .ref e1.2.2, rfl, dget (kd.keep sH2) k1, e1.2.2, x1, _, rfl, s2 _ _ a1, e1.2.2, e1.2.1, rfl, ⟨x1, s2 _ _ a1⟩, ?_⟩
            refine ⟨l2, y :: acc, e1.2.1.s, rfl, by rw [upd_same, List.append_nil]; rfl, sH.free nl2, sH2, by rw [List.length_cons]; omega, ?_, srcM e1 m1⟩
            rw [← ch]
            show _ = chainB ks m (y :: acc) (srcOf ks y)
            unfold srcOf
            rw [k1]
            rfl
end

end K14

namespace K14
open PySem PySem.Spec PyProof.Rows L2 Jg
local macro_rules | `(tactic| walk_at "rd1") => `(tactic| (first
  | refine ⟨_, rfl, ?_⟩
  | refine ⟨_, _, rfl, rfl, ?_⟩
  | refine ⟨_, _, rfl, ?_⟩
  | refine ⟨rfl, ?_⟩
  | (refine ⟨show (0 : Int) < _ by omega, ?_⟩)
  | (refine ⟨Or.inl ⟨by omega, by omega⟩, ?_⟩)
  | (refine ⟨Or.inr ⟨by omega, by omega⟩, ?_⟩)
  | (refine ⟨(⟨by decide, by decide, by decide⟩ : CPow _ _), ?_⟩)
  | refine Or.inl ⟨_, rfl, ?_⟩
  | refine Or.inr ⟨_, rfl, ?_⟩
  | fail "rd"))
local macro_rules | `(tactic| walk_at "rd") => `(tactic| repeat' walk_at "rd1")


theorem lc_w {J : It} {n : Nat} {G : Hp → Prop} {Y : Nat → Hp → V → Hp → Prop} (W : Walk J n G Y) {g : TG} {tt : TT} {te : TE} {vs : List Nat} {σ : L2.St} {H1 : Hp} {D : Addr} {Qd : Hp → Prop} (Pv : Nat → Hp → Prop) (h0 : Pv 0 (upd H1 D (.lst []))) (hG : ∀ i H, Pv i H → G H)
    (hs : ∀ i H x H', i < n → Pv i H → Y i H x H' → g x (wipe σ vs) H' fun σ2 H2 => wipe σ2 vs = wipe σ vs ∧ tt σ2 H2 fun b H3 =>
      if b = true then te σ2 H3 fun y H4 => ∃ acc, H4 D = some (.lst acc) ∧ acc.length < sizeLine ∧ Pv (i + 1) (upd H4 D (.lst (acc ++ [y]))) else Pv (i + 1) H3) (hd : ∀ H, Pv n H → Qd H) : LcAsk J g tt te vs σ H1 D Qd := by
  refine ⟨fun i m H => m = n - i ∧ i ≤ n ∧ Pv i H, ⟨_, rfl, Nat.zero_le _, h0⟩, ?_⟩
  rintro i m H ⟨rfl, hi, p⟩
  rcases Nat.lt_or_ge i n with lt | ge
  · exact .inr ⟨W.goes i H lt (hG i H p), Pv (i + 1), (fun H' p' => ⟨_, by omega, rfl, lt, p'⟩), fun x H' y => hs i H x H' lt p (W.yields i H x H' lt (hG i H p) y)⟩
  · have e : i = n := by omega
    subst e
    exact .inl ⟨W.stops H (hG i H p), hd H p⟩
def rLenL (K : PySem.W.Frag) : List V → Hp → VK → Prop := fun xs H Q => ∃ p ys, xs = [.ref p] ∧ SqL K H p ys ∧ Q (.int ys.length) H
theorem call_lenK {X : Cx} {K : PySem.W.Frag} (e : X.K = K) : CallR X (.builtin "len") (rLenL K) := by
  subst e
  intro pins s σ H xs us Q I r ⟨p, ys, e, h, q⟩
  exact call_len_seq pins s σ H xs us Q I r ⟨p, ys, e, .inl h, q⟩
def ff (d c : Addr) : List (Str × V) := [("_kinds", .ref d), ("_calls", .ref c)]
theorem fkc : ¬ (("_kinds" : Str) = "_calls") := by decide +kernel
theorem put_k2 (d c e : Addr) : putF "_kinds" (.ref e) (ff d c) = ff e c := by
  show (if ("_kinds" : Str) = "_kinds" then _ else _) = _
  rw [if_pos rfl]; rfl
theorem put_c (d c : Addr) : putF "_calls" (.ref c) [(("_kinds" : Str), V.ref d)] = ff d c := by
  show (if ("_kinds" : Str) = "_calls" then _ else _) = _
  rw [if_neg fkc]; rfl
theorem get_k (d c : Addr) : (ff d c).lookup ("_kinds" : Str) = some (.ref d) := by
  have e : ((("_kinds" : Str)) == ("_kinds" : Str)) = true := by decide +kernel
  simp only [ff, List.lookup, e]
theorem get_c (d c : Addr) : (ff d c).lookup ("_calls" : Str) = some (.ref c) := by
  have e1 : ((("_calls" : Str)) == ("_kinds" : Str)) = false := by decide +kernel
  have e2 : ((("_calls" : Str)) == ("_calls" : Str)) = true := by decide +kernel
  simp only [ff, List.lookup, e1, e2]
theorem get_fno (d c : Addr) {m : Str} (h1 : (m == ("_kinds" : Str)) = false) (h2 : (m == ("_calls" : Str)) = false) : (ff d c).lookup m = none := by
  simp only [ff, List.lookup, h1, h2]
/-- a fleet stands at f: its kinds ks in the dict at d, its calls in the list at c -/
structure FltAt (F C : Addr) (H : Hp) (f d c : Addr) (ks : Ks) (cs : List V) : Prop where
  at_ : ∃ dx, H f = some (.ins F dx (ff d c))
  ed : H d = some (.dK (kvs ks))
  kds : Kds C H d ks
  cal : H c = some (.lst cs)
def putKs (ks : Ks) (z : Str) (r : Kd) (x : Addr) : Ks := if ks.any (fun e => decide (e.1 = z)) then ks.map (fun e => if e.1 = z then (z, r, x) else e) else ks ++ [(z, r, x)]
theorem any_key (ks : Ks) (z : Str) : ((kvs ks).any fun kv => decide (kv.1 = Sum.inr z)) = ks.any fun e => decide (e.1 = z) := by
  unfold kvs
  rw [List.any_map]
  congr 1
  funext e
  exact key_rr e.1 z
theorem kvs_put (ks : Ks) (z : Str) (r : Kd) (x : Addr) : kvs (putKs ks z r x) = putK (kvs ks) (Sum.inr z) (.ref x) := by
  unfold putKs putK
  rw [any_key]
  split
  · unfold kvs
    rw [List.map_map, List.map_map]
    refine List.map_congr_left fun e _ => ?_
    show (Sum.inr (if e.1 = z then (z, r, x) else e).1, V.ref (if e.1 = z then (z, r, x) else e).2.2) = (if (Sum.inr e.1 : Key) = Sum.inr z then _ else _)
    by_cases c : e.1 = z
    · rw [if_pos c, if_pos (by rw [c])]
      show ((Sum.inr z : Key), V.ref x) = (Sum.inr e.1, V.ref x)
      rw [c]
    · rw [if_neg c, if_neg (fun q => c (Sum.inr.inj q))]
  · unfold kvs
    rw [List.map_append]
    rfl
theorem mem_put {ks : Ks} {z : Str} {r : Kd} {x : Addr} {e : Str × Kd × Addr} (h : e ∈ putKs ks z r x) : e ∈ ks ∨ e = (z, r, x) := by
  unfold putKs at h
  split at h
  · obtain ⟨o, ho, q⟩ := List.mem_map.mp h
    by_cases c : o.1 = z
    · rw [if_pos c] at q; exact .inr q.symm
    · rw [if_neg c] at q; exact .inl (q ▸ ho)
  · rcases List.mem_append.mp h with h | h
    · exact .inl h
    · exact .inr (List.mem_singleton.mp h)
theorem len_put (ks : Ks) (z : Str) (r : Kd) (x : Addr) (h : z ∈ ks.map (·.1) ∨ ks.length < 5) (h5 : ks.length ≤ 5) : (putKs ks z r x).length ≤ 5 := by
  unfold putKs
  split
  · rw [List.length_map]; exact h5
  · rename_i c
    rw [List.length_append]
    show ks.length + 1 ≤ 5
    rcases h with h | h
    · obtain ⟨e, he, q⟩ := List.mem_map.mp h
      exact absurd (List.any_eq_true.mpr ⟨e, he, decide_eq_true q⟩) c
    · omega
def spFInit (F C : Addr) : Sp := fun vs H Q _ => ∃ x dx, vs = [.ref x] ∧ H x = some (.ins F dx []) ∧ ∀ H' d c, H d = none → H c = none → FltAt F C H' x d c [] [] → (∀ b o, H b = some o → b ≠ x → H' b = some o) → Q .non H'
theorem names_put {ks : Ks} {z : Str} {r : Kd} {x : Addr} {y : Str} (h : y ∈ ks.map (·.1)) : y ∈ (putKs ks z r x).map (·.1) := by
  obtain ⟨e, he, rfl⟩ := List.mem_map.mp h
  unfold putKs
  split
  · by_cases c : e.1 = z
    · exact List.mem_map.mpr ⟨(z, r, x), List.mem_map.mpr ⟨e, he, if_pos c⟩, c.symm⟩
    · exact List.mem_map.mpr ⟨e, List.mem_map.mpr ⟨e, he, if_neg c⟩, rfl⟩
  · exact List.mem_map.mpr ⟨e, List.mem_append_left _ he, rfl⟩
theorem fed_put {ks : Ks} {z : Str} {r : Kd} {x : Addr} (fed : Fed ks) (src : ∀ s, r.s = some s → s ∈ ks.map (·.1)) : Fed (putKs ks z r x) := fun e he y ey => by
  rcases mem_put he with h | h
  · exact names_put (fed e h y ey)
  · rw [h] at ey; exact names_put (src y ey)
/-- is the chain of e too long -/
def lg (ks : Ks) (e : Str × Kd × Addr) : Bool := decide ((4 : Int) < (((chainF ks e.1).map V.str).length : Int))
/-- what is refused as a kind of the fleet, whatever the fleet holds -/
def BadSet (K : PySem.W.Frag) (C : Addr) (H : Hp) (y v : V) : Prop := (∃ z, y = .str z ∧ z.length ≤ sizeLine ∧ wordB z = false) ∨ (∃ t, TyX K H y t ∧ kit K t "str" false) ∨ (∃ z t, y = .str z ∧ z.length ≤ sizeLine ∧ wordB z = true ∧ TyX K H v t ∧ PySem.W.kitOne K t (.ref C) = some false)
def spSet (K : PySem.W.Frag) (F C CI CU CO : Addr) : Sp := fun vs H Q E => ∃ (f d c : Addr) (y v : V) (ks : Ks) (cs : List V), vs = [.ref f, y, v] ∧ FltAt F C H f d c ks cs ∧ ks.length ≤ 5 ∧ Fed ks ∧
  ((BadSet K C H y v ∧ ∀ d' H', H d' = none → H' d' = some (.xd [(("value" : Str), y)]) → Same H H' → E (.ref CI) (some d') H') ∨
   (∃ (p : Addr) (z : Str) (r : Kd), y = .str z ∧ v = .ref p ∧ KAt C H p r ∧ KOk r ∧ z.length ≤ sizeLine ∧ wordB z = true ∧
    ((∃ s, r.s = some s ∧ s ∉ ks.map (·.1) ∧ ∀ d' H', H d' = none → H' d' = some (.xd [(("name" : Str), .str s)]) → Same H H' → E (.ref CU) (some d') H') ∨
     ((∀ s, r.s = some s → s ∈ ks.map (·.1)) ∧
      ((z ∉ ks.map (·.1) ∧ ks.length = 5 ∧ ∀ d' H', H d' = none → H' d' = some (.xd [(("limit" : Str), .int 5)]) → Same H H' → E (.ref CO) (some d') H') ∨
       ((z ∈ ks.map (·.1) ∨ ks.length < 5) ∧
        (((∀ x, (putKs ks z r x).any (lg (putKs ks z r x)) = true) ∧ ∀ d' H', H d' = none → H' d' = some (.xd [(("value" : Str), .str z)]) → Same H H' → E (.ref CI) (some d') H') ∨
         ((∀ x, (putKs ks z r x).any (lg (putKs ks z r x)) = false) ∧ ∀ d' x H', H d' = none → H x = none → FltAt F C H' f d' c (putKs ks z r x) cs → (∀ b o, H b = some o → b ≠ f → H' b = some o) → Q .non H'))))))))
section
variable {P : Program} {w : World} {K : PySem.W.Frag} {mg : Str → Option Value} {base : Heap} {C CI CU CO F : Addr}
abbrev s_Fleet_init : Stmt := inClass (top 23) 0
theorem sc_Fleet_init : FnScope ["self"] ["self"] (defScope s_Fleet_init) := ⟨rfl, rfl, rfl, by decide +kernel, rfl, by decide +kernel, by decide +kernel⟩
theorem ok_finit (D : MetK K F "__init__" "Fleet.__init__" s_Fleet_init) (TF : FTx K mg F) : Met P w K mg base CX0 1 F "__init__" (spFInit F C) := by
  refine D.met sc_Fleet_init (fun _ _ _ _ _ _ us hl => match us, hl with | [_], _ => rfl) (fun vs H Q E h => ?_) fun f cdv A outer s H vs Q E hr h => ?_
  · obtain ⟨x, dx, rfl, _⟩ := h; rfl
  · obtain ⟨x, dx, rfl, ex, k⟩ := h
    refine ⟨_, (pss_cons (ps_fld (pv 0) pe_dnewK rfl)
      (pss_one (ps_fld (pv 0) (pe_lst pa_nil) rfl))), ?_⟩
    have npos : (0 : Nat) < 1000 := by decide
    have one : (1 : Nat) < 1000 := by decide
    refine fun d nd => ⟨_, rfl, x, F, dx, [], rfl, same_new nd _ _ ex, TF.cl, TF.nk, npos, ?_⟩
    rw [show putF "_kinds" (V.ref d) [] = [(("_kinds" : Str), V.ref d)] from rfl]
    have dx' : d ≠ x := fun z => by rw [z, ex] at nd; cases nd
    refine ⟨by show 0 ≤ sizeLine; decide, fun c nc => ?_⟩
    have cx : c ≠ x := fun z => by rw [z, upd_same] at nc; cases nc
    have cd : c ≠ d := fun z => by rw [z, upd_ne dx', upd_same] at nc; cases nc
    refine ⟨_, rfl, x, F, dx, [(("_kinds" : Str), V.ref d)], rfl, by rw [upd_ne (Ne.symm cx), upd_same], TF.cl, TF.nc, one, ?_⟩
    rw [put_c]
    have hd : upd (upd (upd (upd H d (.dK [])) x (.ins F dx [(("_kinds" : Str), V.ref d)])) c (.lst [])) x (.ins F dx (ff d c)) d = some (.dK []) := by rw [upd_ne dx', upd_ne (Ne.symm cd), upd_ne dx', upd_same]
    refine k _ d c nd ((same_new nd).free (by rw [upd_ne cx] at nc; exact nc)) ⟨⟨dx, upd_same⟩, hd, ⟨.inl hd, fun e he => nomatch he⟩, by rw [upd_ne cx, upd_same]⟩ fun b o e n => ?_
    rw [upd_ne n]
    have nb : H c = none := (same_new nd).free (by rw [upd_ne cx] at nc; exact nc)
    rw [upd_ne (ne_of_none e nb), upd_ne n, upd_ne (ne_of_none e nd)]
    exact e
abbrev s_LimitExceeded_init : Stmt := inClass (top 7) 0
theorem sc_LimitExceeded_init : FnScope ["self", "limit"] ["self", "limit"] (defScope s_LimitExceeded_init) := ⟨rfl, rfl, rfl, by decide +kernel, rfl, by decide +kernel, by decide +kernel⟩
theorem ok_linit (D : ExnQ K mg "LimitExceeded" CO "LimitExceeded.__init__" s_LimitExceeded_init "limit") : ExnB P w K mg base 1 "LimitExceeded" CO (spX CO "limit") := by
  obtain ⟨fI, fd, F, a, ty⟩ := D.ini
  refine ⟨D.mg_, D.ovr, fI, fd, _, F.ok sc_LimitExceeded_init (fun vs H Q E h => ?_) (fun cdv A outer s H vs Q E hr h => ?_), a, ty, F.binds (fun _ _ _ _ _ _ us hl => match us, hl with | [_, _], _ => rfl)⟩
  · obtain ⟨a, y, rfl, _⟩ := h; rfl
  · obtain ⟨a, y, rfl, ha, k⟩ := h
    exact ⟨_, (pss_one (ps_keep (pv 0) (pv 1))), _, rfl, _, rfl, a, CO, rfl, D.ovr, D.no, ha, fun dx n e => k dx n e⟩
abbrev s_Fleet_setitem : Stmt := inClass (top 23) 1
theorem sc_Fleet_setitem : FnScope ["self", "at", "worth", "kinds", "name"] ["self", "at", "worth"] (defScope s_Fleet_setitem) := ⟨rfl, rfl, rfl, by decide +kernel, rfl, by decide +kernel, by decide +kernel⟩
theorem ok_fset (D : MetK K F "__setitem__" "Fleet.__setitem__" s_Fleet_setitem) (T : Txt K mg C) (TF : FTx K mg F) (G_is_word : Cal P w K mg base CX0 1 "is_word" (spWord K)) (G_source : Prp P w K mg base CX0 1 C "source" (spPrp C fun r => sV r.s)) (G_copied : Cal P w K mg base CX0 7 "_copied" (spCopied C)) (G_chain_to : Cal P w K mg base CX0 3 "_chain_to" (spChain C)) (G_InvalidKind : ExnB P w K mg base 1 "InvalidKind" CI (spX CI "value")) (G_UnknownName : ExnB P w K mg base 1 "UnknownName" CU (spX CU "name")) (G_LimitExceeded : ExnB P w K mg base 1 "LimitExceeded" CO (spX CO "limit")) : Met P w K mg base (L2.CX P w) 8 F "__setitem__" (spSet K F C CI CU CO) := by
  refine D.metX sc_Fleet_setitem (fun _ _ _ _ _ _ us hl => match us, hl with | [_, _, _], _ => rfl) (fun vs H Q E h => ?_) fun f cdv A outer s H vs Q E hr h => ?_
  · obtain ⟨f, d, c, y, v, ks, cs, rfl, _⟩ := h; rfl
  · obtain ⟨f, d, c, y, v, ks, cs, rfl, fa, few, fed, k⟩ := h
    have hu1 : (A.deeper (envOfC "Fleet.__setitem__" (defScope s_Fleet_setitem) s.heap.objs.size f cdv)).units + 1 < cLine := Nat.lt_of_le_of_lt (Nat.add_le_add_left (by decide : 1 ≤ 64) _) hr.units
    refine ⟨_, (pss_cons (ps_if (PW.pt (pw_or (pt_not (pt_val (pe_c G_is_word hr (by decide) rfl (pa_cons (pv 1) pa_nil)))) (pw_or1 (pt_not (pt_val (pe_callB call_isi (by rfl) T.b_isinstance (by decide +kernel) (pa_cons (pv 2) (pa_cons (pe_glob (v := .ref C) rfl T.cKind rfl) pa_nil)))))))) (pss_one (ps_raise rfl (takes_of rfl rfl rfl rfl) (pmk_b G_InvalidKind hr (by decide) rfl (pa_cons (pv 1) pa_nil)))) pss_nil)
      (C8.pss_cut (ps_if (PW.pt (pw_and (pt_cmpR op_notN (pe_p G_source T.cl hr (by decide) (pv 2)) pe_non (nomark _)) (pw_and1 (pt_cmp (pc_dnotin hu1 (pe_p G_source T.cl hr (by decide) (pv 2)) (pe_fld (pv 0) rfl)))))) (pss_one (ps_raise rfl (takes_of rfl rfl rfl rfl) (pmk_b G_UnknownName hr (by decide) rfl (pa_cons (pe_p G_source T.cl hr (by decide) (pv 2)) pa_nil)))) pss_nil)
      (C8.pss_cut (ps_if (PW.pt (pw_and (pt_cmp (pc_dnotin hu1 (pv 1) (pe_fld (pv 0) rfl))) (pw_and1 (pt_cmpR op_eq (pe_callB call_lenD (by rfl) T.b_len (by decide +kernel) (pa_cons (pe_fld (pv 0) rfl) pa_nil)) (pe_gc rfl T.gMOST_KINDS) (nomark _))))) (pss_one (ps_raise rfl (takes_of rfl rfl rfl rfl) (pmk_b G_LimitExceeded hr (by decide) rfl (pa_cons (pe_gc rfl T.gMOST_KINDS) pa_nil)))) pss_nil)
      (pss_cons (ps_set (i := 3) sc_Fleet_setitem.nd rfl (Or.inr rfl) (pe_callTy cr_copyD (by rfl) T.b_dict (by decide +kernel) (pa_cons (pe_fld (pv 0) rfl) pa_nil)))
      (pss_cons (ps_dput hu1 (pv 3) (pv 1) (pe_c G_copied hr (by decide) rfl (pa_cons (pv 2) pa_nil)) rfl)
      (pss_cons (ps_if (pt_val (pe_lock (pe_callB (cr_any rfl) (by rfl) T.b_any (by decide +kernel) (pa_cons (pe_lc (own := [("name", 4)]) (g := gName 4) (by rfl) sc_Fleet_setitem.nd (pi_keys (pv 3)) (blkOk_by (own := [("name", 4)]) (N := ["self", "at", "worth", "kinds", "name"]) (sc := defScope s_Fleet_setitem) (by decide +kernel)) (fun _ _ _ _ _ => pg_name (i := 4) sc_Fleet_setitem.nd rfl (Or.inl rfl)) (fun _ _ _ _ _ => pts_nil) (fun _ _ _ _ _ => (pe_cmpR op_gt (pe_callB (r := rLenL K) (call_lenK rfl) (by rfl) T.b_len (by decide +kernel) (pa_cons (pe_c G_chain_to hr (by decide) rfl (pa_cons (pv 3) (pa_cons (pv 4) pa_nil))) pa_nil)) (pe_gc rfl T.g_LONGEST_CHAIN) (nomark _)))) pa_nil)))) (pss_one (ps_raise rfl (takes_of rfl rfl rfl rfl) (pmk_b G_InvalidKind hr (by decide) rfl (pa_cons (pv 1) pa_nil)))) pss_nil)
      (pss_one (ps_fld (pv 0) (pv 3) rfl)))))))), ?_⟩
    obtain ⟨dx, ef⟩ := id fa.at_
    rcases k with ⟨bad, k⟩ | ⟨p, z, r, rfl, rfl, kp, ok, hz, wz, k⟩
    · rcases bad with ⟨z, rfl, hz, wz⟩ | ⟨t, ty, kt⟩ | ⟨z, t, rfl, hz, wz, ty, kt⟩
      · refine ⟨_, rfl, .str z, rfl, .inl ⟨z, rfl, hz, _, rfl, ?_⟩⟩
        rw [wz]
        exact iteT (iteT ⟨_, rfl, x_read fun d nd => k d _ nd upd_same (same_new nd)⟩)
      · exact ⟨_, rfl, y, rfl, .inr ⟨t, ty, kt, _, rfl, iteT (iteT ⟨_, rfl, x_read fun d nd => k d _ nd upd_same (same_new nd)⟩)⟩⟩
      · refine ⟨_, rfl, .str z, rfl, .inl ⟨z, rfl, hz, _, rfl, ?_⟩⟩
        rw [wz]
        exact iteF ⟨_, rfl, v, .ref C, t, _, false, rfl, .own C, ty, kt, _, rfl, iteT ⟨_, rfl, x_read fun d nd => k d _ nd upd_same (same_new nd)⟩⟩
    obtain ⟨dp, ep⟩ := id kp
    refine ⟨_, rfl, .str z, rfl, .inl ⟨z, rfl, hz, _, rfl, ?_⟩⟩
    rw [wz]
    refine iteF ⟨_, rfl, .ref p, .ref C, .ref C, _, true, rfl, .own C, T.ty kp, T.kCC, _, rfl, iteF ?_⟩
    have kdz : ∀ y : Str, DGet H d (.str y) (valV (kvs ks) (Sum.inr y)) := fun y => .inl ⟨kvs ks, Sum.inr y, .inl fa.ed, rfl, rfl⟩
    have st0 : L2.start ["self", "at", "worth", "kinds", "name"] [V.ref f, V.str z, V.ref p] = [some (V.ref f), some (V.str z), some (V.ref p), none, none] := rfl
    rw [st0]
    refine ⟨fun sg H' => sg = [some (V.ref f), some (V.str z), some (V.ref p), none, none] ∧ H' = H ∧ ∀ s, r.s = some s → s ∈ ks.map (·.1), ?_, ?_⟩
    · refine ⟨_, rfl, p, dp, _, rfl, ep, p, r, rfl, kp, rfl, _, rfl, ?_⟩
      cases es : r.s with
      | none => exact iteFe (show (!decide (sV r.s = V.non)) = false by rw [es]; rfl) (iteF ⟨rfl, rfl, fun s e => by cases e⟩)
      | some y =>
        have dk := kdz y
        rw [kd_val] at dk
        refine iteTe (show (!decide (sV r.s = V.non)) = true by rw [es]; rfl) ⟨_, rfl, p, dp, _, rfl, ep, p, r, rfl, kp, _, rfl, f, F, dx, _, _, rfl, ef, TF.cl, TF.nk, get_k _ _, d, _, rfl, show DGet H d (sV r.s) _ from (by rw [es]; exact dk), _, rfl, ?_⟩
        by_cases m : y ∈ ks.map (·.1)
        · obtain ⟨e1, k1, m1, z1⟩ := kd_mem m
          rw [k1]
          exact iteF ⟨rfl, rfl, fun s e => by cases e; exact m⟩
        · rw [List.find?_eq_none.mpr (fun e he q => m (List.mem_map.mpr ⟨e, he, by simpa using q⟩)) |> (show kdOf ks y = none from ·)]
          refine iteT ⟨_, rfl, p, dp, _, rfl, ep, p, r, rfl, kp, ?_⟩
          rcases k with ⟨s0, e0, n0, q⟩ | ⟨src, _⟩
          · rw [es] at e0
            cases e0
            refine x_read fun d nd => ?_
            refine q d _ nd ?_ (same_new nd)
            rw [upd_same]
            show some (HO.xd [(("name" : Str), sV r.s)]) = _
            rw [es]; rfl
          · exact absurd (src y es) m
    · rintro sg H1 ⟨rfl, rfl, src⟩
      have k := k.resolve_left fun ⟨s0, e0, n0, _⟩ => n0 (src s0 e0)
      have k := k.2
      refine ⟨fun sg H' => sg = [some (V.ref f), some (V.str z), some (V.ref p), none, none] ∧ H' = H1 ∧ (z ∈ ks.map (·.1) ∨ ks.length < 5), ?_, ?_⟩
      · refine ⟨_, rfl, _, rfl, f, F, dx, _, _, rfl, ef, TF.cl, TF.nk, get_k _ _, d, _, rfl, kdz z, _, rfl, ?_⟩
        rw [kd_val]
        by_cases c : z ∈ ks.map (·.1)
        · obtain ⟨e1, k1, m1, z1⟩ := kd_mem c
          rw [k1]
          exact iteF (iteF ⟨rfl, rfl, .inl c⟩)
        · have no : kdOf ks z = none := List.find?_eq_none.mpr fun e he q => c (List.mem_map.mpr ⟨e, he, by simpa using q⟩)
          rw [no]
          refine iteT ⟨_, rfl, f, F, dx, _, _, rfl, ef, TF.cl, TF.nk, get_k _ _, d, _, rfl, fa.ed, ?_⟩
          have kl : (kvs ks).length = ks.length := List.length_map ..
          by_cases l5 : ks.length < 5
          · refine ⟨rfl, _, rfl, iteFe (decide_eq_false fun q => ?_) ⟨rfl, rfl, .inr l5⟩⟩
            have q2 := V.int.inj q
            omega
          · rcases k with ⟨_, l, q⟩ | ⟨room, _⟩
            · exact ⟨rfl, _, rfl, iteTe (by rw [kl, l]; rfl) (x_read fun d0 nd0 => q d0 _ nd0 upd_same (same_new nd0))⟩
            · exact absurd room (fun q => q.elim c l5)
      · rintro sg H2 ⟨rfl, rfl, room⟩
        have k := (k.resolve_left fun ⟨n, l, _⟩ => room.elim n fun q => by omega).2
        refine ⟨_, rfl, f, F, dx, _, _, rfl, ef, TF.cl, TF.nk, get_k _ _, d, kvs ks, rfl, .inl fa.ed, fun d' nd' => ?_⟩
        have s1 := same_new (o := .dK (kvs ks)) nd'
        refine ⟨_, rfl, p, r, rfl, same_kat s1 kp, ok, fun x H' nx sx kx => ?_⟩
        have hl5 : (kvs ks).length < sizeLine := by
          have kl : (kvs ks).length = ks.length := List.length_map ..
          rw [kl, sizeLine_eq]; omega
        have ed' : H' d' = some (.dK (kvs ks)) := sx _ _ upd_same
        have xd : x ≠ d' := fun q => by rw [q, upd_same] at nx; cases nx
        have nxH : H2 x = none := by rw [upd_ne xd] at nx; exact nx
        refine ⟨_, rfl, _, rfl, d', _, rfl, .inl ⟨kvs ks, Sum.inr z, ed', rfl, hl5, rfl⟩, ?_⟩
        rw [← kvs_put ks z r x]
        have hs : Same H2 H' := s1.trans sx
        have hp : Same H2 (upd H' d' (.dK (kvs (putKs ks z r x)))) := same_mut hs nd'
        have edP : upd H' d' (.dK (kvs (putKs ks z r x))) d' = some (.dK (kvs (putKs ks z r x))) := upd_same
        have katP : ∀ e ∈ putKs ks z r x, (KAt C (upd H' d' (.dK (kvs (putKs ks z r x)))) e.2.2 e.2.1 ∧ KOk e.2.1) := fun e he => by
          rcases mem_put he with h | h
          · exact ⟨same_kat hp (fa.kds.2 e h).1, (fa.kds.2 e h).2⟩
          · subst h
            obtain ⟨dk, ek⟩ := kx
            exact ⟨⟨dk, by rw [upd_ne xd]; exact ek⟩, ok⟩
        have l5 := len_put ks z r x room few
        have fed' := fed_put (z := z) (r := r) (x := x) fed src
        have k' : ((putKs ks z r x).any (lg (putKs ks z r x)) = true ∧ ∀ d' H', H2 d' = none → H' d' = some (.xd [(("value" : Str), .str z)]) → Same H2 H' → E (.ref CI) (some d') H') ∨ ((putKs ks z r x).any (lg (putKs ks z r x)) = false ∧ ∀ d' H', H2 d' = none → H2 x = none → FltAt F C H' f d' c (putKs ks z r x) cs → (∀ b o, H2 b = some o → b ≠ f → H' b = some o) → Q .non H') := k.imp (fun q => ⟨q.1 x, q.2⟩) fun q => ⟨q.1 x, fun d' => q.2 d' x⟩
        clear k
        generalize hks : putKs ks z r x = ks' at *
        generalize upd H' d' (.dK (kvs ks')) = HP at *
        have dl : (kvs ks').length = ks'.length := List.length_map ..
        refine ⟨d', _, edP, trivial, fun od => ?_⟩
        have el : upd HP d' (.frz od (.dK (kvs ks'))) d' = some (.frz od (.dK (kvs ks'))) := upd_same
        have ne : ∀ e ∈ ks', e.2.2 ≠ d' := fun e he q => by
          obtain ⟨dk, ek⟩ := (katP e he).1
          rw [q, edP] at ek
          cases ek
        have kdL : Kds C (upd HP d' (.frz od (.dK (kvs ks')))) d' ks' := ⟨.inr ⟨od, el⟩, fun e he => ⟨by
          obtain ⟨dk, ek⟩ := (katP e he).1
          exact ⟨dk, by rw [upd_ne (ne e he)]; exact ek⟩, (katP e he).2⟩⟩
        have back : ∀ H3, Same (upd HP d' (.frz od (.dK (kvs ks')))) H3 → Same HP (upd H3 d' (.dK (kvs ks'))) := fun H3 s q o e => by
          by_cases c : q = d'
          · rw [c] at e ⊢
            rw [upd_same, ← edP]; exact e
          · rw [upd_ne c]
            exact s _ _ (by rw [upd_ne c]; exact e)
        generalize upd HP d' (.frz od (.dK (kvs ks'))) = HL at *
        refine ⟨_, rfl, d', od, rfl, .inl ⟨_, el, fun D nD => lc_w walk_keys (fun i H3 => Same HL H3 ∧ H3 D = some (.lst ((ks'.take i).map fun e => V.bl (lg ks' e)))) ⟨same_new nD, upd_same⟩ (fun i H3 q => q.1 _ _ el) ?_ ?_⟩⟩
        · rintro i H3 y H4 lt ⟨s2, eD⟩ ⟨rfl, kk, vv, ek, rfl⟩
          obtain ⟨e, er, e1⟩ : ∃ e, ks'[i]? = some e ∧ (kk, vv) = ((Sum.inr e.1 : Key), V.ref e.2.2) := by
            unfold kvs at ek
            rw [List.getElem?_map] at ek
            cases c : ks'[i]? with
            | none => rw [c] at ek; cases ek
            | some e => rw [c] at ek; exact ⟨e, rfl, (Option.some.inj ek).symm⟩
          obtain ⟨rfl, rfl⟩ : kk = Sum.inr e.1 ∧ vv = V.ref e.2.2 := ⟨congrArg Prod.fst e1, congrArg Prod.snd e1⟩
          have he := List.mem_of_getElem? er
          have tk : ks'.take (i + 1) = ks'.take i ++ [e] := by rw [List.take_succ, er]; rfl
          refine ⟨rfl, yes_if ⟨_, rfl, _, rfl, d', e.1, ks', rfl, kdL.keep s2, fed', List.mem_map.mpr ⟨e, he, rfl⟩, fun l H5 nl s5 el5 => ⟨l, _, rfl, SqL.of el5, _, _, rfl, rfl, ?_⟩⟩⟩
          have fin : ∀ b : Bool, b = lg ks' e → ∃ acc, H5 D = some (.lst acc) ∧ acc.length < sizeLine ∧ Same HL (upd H5 D (.lst (acc ++ [V.bl b]))) ∧ upd H5 D (.lst (acc ++ [V.bl b])) D = some (.lst ((ks'.take (i + 1)).map fun e => V.bl (lg ks' e))) := fun b hb => by
            subst hb
            refine ⟨_, s5 _ _ eD, ?_, fun q o e => by rw [upd_ne (ne_of_none e nD)]; exact s5 _ _ (s2 _ _ e), by rw [upd_same, tk, List.map_append]; rfl⟩
            rw [List.length_map, List.length_take, sizeLine_eq]
            omega
          exact fin _ rfl
        · rintro H3 ⟨s2, eD⟩
          rw [dl, List.take_length] at eD
          refine ⟨D, ks'.map (lg ks'), rfl, SqL.of (by rw [List.map_map]; exact eD), s2 _ _ el, ?_⟩
          have al : (ks'.map (lg ks')).any id = ks'.any (lg ks') := by rw [List.any_map]; rfl
          rw [al]
          have sB := back _ s2
          generalize upd H3 d' (.dK (kvs ks')) = HB at *
          have sF := hp.trans sB
          have dne : d' ≠ f := fun q => by rw [q, ef] at nd'; cases nd'
          refine ⟨_, rfl, ?_⟩
          rcases k' with ⟨ny, q⟩ | ⟨ny, q⟩
          · rw [ny]
            exact iteT ⟨_, rfl, x_read fun d0 nd0 => q d0 _ (sF.free nd0) upd_same (sF.trans (same_new nd0))⟩
          rw [ny]
          refine iteF ⟨_, rfl, _, rfl, f, F, dx, _, rfl, sF _ _ ef, TF.cl, TF.nk, by show 2 < 1000; decide, ?_⟩
          rw [put_k2]
          have nf : ∀ {q o}, o ≠ HO.ins F dx (ff d c) → HB q = some o → q ≠ f := fun {q o} h e z => by
            rw [z, sF _ _ ef] at e
            exact h (Option.some.inj e).symm
          have keep : ∀ b o, H2 b = some o → b ≠ f → upd HB f (.ins F dx (ff d' c)) b = some o := fun b o e n => by rw [upd_ne n]; exact sF _ _ e
          refine q d' _ nd' nxH ⟨⟨dx, upd_same⟩, by rw [upd_ne dne]; exact sB _ _ edP, ⟨.inl (by rw [upd_ne dne]; exact sB _ _ edP), fun e he => ?_⟩, ?_⟩ keep
          · obtain ⟨⟨dk, ek⟩, oke⟩ := katP e he
            have nq : e.2.2 ≠ f := nf (o := .ins C dk (kflds e.2.1)) (fun q => by
              injection q with q1 q2 q3
              have q4 := congrArg List.length q3
              cases q4) (sB _ _ ek)
            exact ⟨⟨dk, by rw [upd_ne nq]; exact sB _ _ ek⟩, oke⟩
          · exact keep _ _ fa.cal fun q => by
              have z := fa.cal
              rw [q, ef] at z
              cases z
end

end K14

namespace K14
open PySem PySem.Spec PyProof.Rows L2 Jg
local macro_rules | `(tactic| walk_at "rd1") => `(tactic| (first
  | refine ⟨_, rfl, ?_⟩
  | refine ⟨_, _, rfl, rfl, ?_⟩
  | refine ⟨_, _, rfl, ?_⟩
  | refine ⟨rfl, ?_⟩
  | (refine ⟨show (0 : Int) < _ by omega, ?_⟩)
  | (refine ⟨Or.inl ⟨by omega, by omega⟩, ?_⟩)
  | (refine ⟨Or.inr ⟨by omega, by omega⟩, ?_⟩)
  | (refine ⟨(⟨by decide, by decide, by decide⟩ : CPow _ _), ?_⟩)
  | refine Or.inl ⟨_, rfl, ?_⟩
  | refine Or.inr ⟨_, rfl, ?_⟩
  | fail "rd"))
local macro_rules | `(tactic| walk_at "rd") => `(tactic| repeat' walk_at "rd1")


/-- what is no kind of the fleet -/
def NoKind (K : PySem.W.Frag) (H : Hp) (ks : Ks) (y : V) : Prop := (∃ z, y = .str z ∧ z.length ≤ sizeLine ∧ (wordB z = true → z ∉ ks.map (·.1))) ∨ ∃ t, (∀ H', Same H H' → TyX K H' y t) ∧ kit K t "str" false
def WdKs (ks : Ks) : Prop := ∀ e ∈ ks, e.1.length ≤ sizeLine ∧ wordB e.1 = true
def spCheck (K : PySem.W.Frag) (F C CU : Addr) : Sp := fun vs H Q E => ∃ (f d c : Addr) (y : V) (ks : Ks) (cs : List V), vs = [.ref f, y] ∧ FltAt F C H f d c ks cs ∧ WdKs ks ∧
  ((∃ z, y = .str z ∧ z ∈ ks.map (·.1) ∧ Q .non H) ∨ (NoKind K H ks y ∧ ∀ d' H', H d' = none → H' d' = some (.xd [(("name" : Str), y)]) → Same H H' → E (.ref CU) (some d') H'))
def spFChain (K : PySem.W.Frag) (F C CU : Addr) : Sp := fun vs H Q E => ∃ (f d c : Addr) (y : V) (ks : Ks) (cs : List V), vs = [.ref f, y] ∧ FltAt F C H f d c ks cs ∧ WdKs ks ∧ Fed ks ∧
  ((∃ z, y = .str z ∧ z ∈ ks.map (·.1) ∧ ∀ l H', H l = none → Same H H' → H' l = some (.lst ((chainF ks z).map V.str)) → Q (.ref l) H') ∨ (NoKind K H ks y ∧ ∀ d' H', H d' = none → H' d' = some (.xd [(("name" : Str), y)]) → Same H H' → E (.ref CU) (some d') H'))
theorem NoKind.keep {K : PySem.W.Frag} {H H' : Hp} {ks : Ks} {y : V} (h : NoKind K H ks y) (s : Same H H') : NoKind K H' ks y := h.elim .inl fun ⟨t, ty, k⟩ => .inr ⟨t, fun H2 s2 => ty H2 (s.trans s2), k⟩
theorem kd_no {ks : Ks} {z : Str} (c : z ∉ ks.map (·.1)) : kdOf ks z = none := List.find?_eq_none.mpr fun e he q => c (List.mem_map.mpr ⟨e, he, by simpa using q⟩)
theorem FltAt.keep {F C : Addr} {H H' : Hp} {f d c : Addr} {ks : Ks} {cs : List V} (h : FltAt F C H f d c ks cs) (s : Same H H') : FltAt F C H' f d c ks cs :=
  let ⟨⟨dx, e⟩, ed, k, cl⟩ := h
  ⟨⟨dx, s _ _ e⟩, s _ _ ed, k.keep s, s _ _ cl⟩
section
variable {P : Program} {w : World} {K : PySem.W.Frag} {mg : Str → Option Value} {base : Heap} {C CI CU F : Addr}
abbrev s_Fleet_check : Stmt := inClass (top 23) 7
theorem sc_Fleet_check : FnScope ["self", "name"] ["self", "name"] (defScope s_Fleet_check) := ⟨rfl, rfl, rfl, by decide +kernel, rfl, by decide +kernel, by decide +kernel⟩
theorem ok_fcheck (D : MetK K F "_check" "Fleet._check" s_Fleet_check) (T : Txt K mg C) (TF : FTx K mg F) (G_is_word : Cal P w K mg base CX0 1 "is_word" (spWord K)) (G_UnknownName : ExnB P w K mg base 1 "UnknownName" CU (spX CU "name")) : Met P w K mg base (L2.CX P w) 3 F "_check" (spCheck K F C CU) := by
  refine D.metX sc_Fleet_check (fun _ _ _ _ _ _ us hl => match us, hl with | [_, _], _ => rfl) (fun vs H Q E h => ?_) fun f cdv A outer s H vs Q E hr h => ?_
  · obtain ⟨f, d, c, y, ks, cs, rfl, _⟩ := h; rfl
  · obtain ⟨f, d, c, y, ks, cs, rfl, fa, wd, h⟩ := h
    have hu1 : (A.deeper (envOfC "Fleet._check" (defScope s_Fleet_check) s.heap.objs.size f cdv)).units + 1 < cLine := Nat.lt_of_le_of_lt (Nat.add_le_add_left (by decide : 1 ≤ 64) _) hr.units
    obtain ⟨dx, ef⟩ := id fa.at_
    have kdz : ∀ y : Str, DGet H d (V.str y) (valV (kvs ks) (Sum.inr y)) := fun y => .inl ⟨kvs ks, Sum.inr y, .inl fa.ed, rfl, rfl⟩
    refine ⟨_, (pss_one (ps_if (PW.pt (pw_or (pt_not (pt_val (pe_c G_is_word hr (by decide) rfl (pa_cons (pv 1) pa_nil)))) (pw_or1 (pt_cmp (pc_dnotin hu1 (pv 1) (pe_fld (pv 0) rfl)))))) (pss_one (ps_raise rfl (takes_of rfl rfl rfl rfl) (pmk_b G_UnknownName hr (by decide) rfl (pa_cons (pv 1) pa_nil)))) pss_nil)), ?_⟩
    rcases h with ⟨z, rfl, mem, q⟩ | ⟨⟨z, rfl, hz, no⟩ | ⟨t, ty, kt⟩, k⟩
    · obtain ⟨e1, k1, m1, z1⟩ := kd_mem mem
      refine ⟨_, rfl, .str z, rfl, .inl ⟨z, rfl, z1 ▸ (wd e1 m1).1, _, rfl, ?_⟩⟩
      rw [show wordB z = true from z1 ▸ (wd e1 m1).2]
      refine iteF ⟨_, rfl, _, rfl, f, F, dx, _, _, rfl, ef, TF.cl, TF.nk, get_k _ _, d, _, rfl, kdz z, _, rfl, ?_⟩
      rw [kd_val, k1]
      exact iteF q
    · refine ⟨_, rfl, .str z, rfl, .inl ⟨z, rfl, hz, _, rfl, ?_⟩⟩
      cases cw : wordB z with
      | false => exact iteT (iteT ⟨_, rfl, x_read fun d nd => k d _ nd upd_same (same_new nd)⟩)
      | true =>
        refine iteF ⟨_, rfl, _, rfl, f, F, dx, _, _, rfl, ef, TF.cl, TF.nk, get_k _ _, d, _, rfl, kdz z, _, rfl, ?_⟩
        rw [kd_val, kd_no (no cw)]
        exact iteT ⟨_, rfl, x_read fun d nd => k d _ nd upd_same (same_new nd)⟩
    · exact ⟨_, rfl, y, rfl, .inr ⟨t, ty _ (.refl _), kt, _, rfl, iteT (iteT ⟨_, rfl, x_read fun d nd => k d _ nd upd_same (same_new nd)⟩)⟩⟩
abbrev s_Fleet_chain : Stmt := inClass (top 23) 9
theorem sc_Fleet_chain : FnScope ["self", "kind"] ["self", "kind"] (defScope s_Fleet_chain) := ⟨rfl, rfl, rfl, by decide +kernel, rfl, by decide +kernel, by decide +kernel⟩
theorem ok_fchain (D : MetK K F "chain" "Fleet.chain" s_Fleet_chain) (T : Txt K mg C) (TF : FTx K mg F) (M_check : Met P w K mg base (L2.CX P w) 3 F "_check" (spCheck K F C CU)) (G_chain_to : Cal P w K mg base CX0 3 "_chain_to" (spChain C)) : Met P w K mg base (L2.CX P w) 4 F "chain" (spFChain K F C CU) := by
  refine D.metX sc_Fleet_chain (fun _ _ _ _ _ _ us hl => match us, hl with | [_, _], _ => rfl) (fun vs H Q E h => ?_) fun f cdv A outer s H vs Q E hr h => ?_
  · obtain ⟨f, d, c, y, ks, cs, rfl, _⟩ := h; rfl
  · obtain ⟨f, d, c, y, ks, cs, rfl, fa, wd, fed, h⟩ := h
    obtain ⟨dx, ef⟩ := id fa.at_
    refine ⟨_, (pss_cons (ps_expr (pe_mS M_check TF.cl (takes_of rfl rfl rfl rfl) hr (by decide) (pv 0) (pa_cons (pv 1) pa_nil)))
      (pss_one (ps_ret (pe_c G_chain_to hr (by decide) rfl (pa_cons (pe_fld (pv 0) rfl) (pa_cons (pv 1) pa_nil)))))), ?_⟩
    rcases h with ⟨z, rfl, mem, q⟩ | ⟨no, k⟩
    · refine ⟨_, rfl, f, dx, _, rfl, ef, get_fno _ _ (by decide +kernel) (by decide +kernel), _, rfl, f, d, c, _, ks, cs, rfl, fa, wd, .inl ⟨z, rfl, mem, ?_⟩⟩
      exact ⟨_, rfl, f, F, dx, _, _, rfl, ef, TF.cl, TF.nk, get_k _ _, _, rfl, d, z, ks, rfl, fa.kds, fed, mem, q⟩
    · exact ⟨_, rfl, f, dx, _, rfl, ef, get_fno _ _ (by decide +kernel) (by decide +kernel), _, rfl, f, d, c, _, ks, cs, rfl, fa, wd, .inr ⟨no, k⟩⟩
theorem chainB_mem {ks : Ks} (fed : Fed ks) : ∀ (n : Nat) (acc : List Str) (so : Option Str), (∀ y ∈ acc, y ∈ ks.map (·.1)) → (∀ y, so = some y → y ∈ ks.map (·.1)) → ∀ y ∈ chainB ks n acc so, y ∈ ks.map (·.1)
  | 0, acc, so, h, _ => h
  | n + 1, acc, none, h, _ => h
  | n + 1, acc, some z, h, h2 => by
    refine chainB_mem fed n (z :: acc) (srcOf ks z) (fun y hy => ?_) fun y e => ?_
    · rcases List.mem_cons.mp hy with q | q
      · rw [q]; exact h2 z rfl
      · exact h y q
    · unfold srcOf at e
      cases c : kdOf ks z with
      | none => rw [c] at e; cases e
      | some o =>
        rw [c] at e
        exact fed o (List.mem_of_find?_eq_some c) y e
theorem chain_mem {ks : Ks} (fed : Fed ks) {z : Str} (h : z ∈ ks.map (·.1)) : ∀ y ∈ chainF ks z, y ∈ ks.map (·.1) := by
  refine chainB_mem fed 4 [z] (srcOf ks z) (fun y hy => by rw [List.mem_singleton.mp hy]; exact h) fun y e => ?_
  obtain ⟨o, c, m, _⟩ := kd_mem h
  unfold srcOf at e
  rw [c] at e
  exact fed o m y e
def spGet (K : PySem.W.Frag) (F C CU : Addr) : Sp := fun vs H Q E => ∃ (f d c : Addr) (y : V) (ks : Ks) (cs : List V), vs = [.ref f, y] ∧ FltAt F C H f d c ks cs ∧ WdKs ks ∧
  ((∃ z e, y = .str z ∧ kdOf ks z = some e ∧ ∀ x H', H x = none → Same H H' → KAt C H' x e.2.1 → Q (.ref x) H') ∨ (NoKind K H ks y ∧ ∀ d' H', H d' = none → H' d' = some (.xd [(("name" : Str), y)]) → Same H H' → E (.ref CU) (some d') H'))
abbrev s_Fleet_getitem : Stmt := inClass (top 23) 2
theorem sc_Fleet_getitem : FnScope ["self", "at"] ["self", "at"] (defScope s_Fleet_getitem) := ⟨rfl, rfl, rfl, by decide +kernel, rfl, by decide +kernel, by decide +kernel⟩
theorem ok_fget (D : MetK K F "__getitem__" "Fleet.__getitem__" s_Fleet_getitem) (T : Txt K mg C) (TF : FTx K mg F) (M_check : Met P w K mg base (L2.CX P w) 3 F "_check" (spCheck K F C CU)) (G_copied : Cal P w K mg base CX0 7 "_copied" (spCopied C)) : Met P w K mg base (L2.CX P w) 8 F "__getitem__" (spGet K F C CU) := by
  refine D.metX sc_Fleet_getitem (fun _ _ _ _ _ _ us hl => match us, hl with | [_, _], _ => rfl) (fun vs H Q E h => ?_) fun f cdv A outer s H vs Q E hr h => ?_
  · obtain ⟨f, d, c, y, ks, cs, rfl, _⟩ := h; rfl
  · obtain ⟨f, d, c, y, ks, cs, rfl, fa, wd, h⟩ := h
    have hu1 : (A.deeper (envOfC "Fleet.__getitem__" (defScope s_Fleet_getitem) s.heap.objs.size f cdv)).units + 1 < cLine := Nat.lt_of_le_of_lt (Nat.add_le_add_left (by decide : 1 ≤ 64) _) hr.units
    obtain ⟨dx, ef⟩ := id fa.at_
    refine ⟨_, (pss_cons (ps_expr (pe_mS M_check TF.cl (takes_of rfl rfl rfl rfl) hr (by decide) (pv 0) (pa_cons (pv 1) pa_nil)))
      (pss_one (ps_ret (pe_c G_copied hr (by decide) rfl (pa_cons (pe_dget hu1 (pe_fld (pv 0) rfl) (pv 1) (fun _ _ => rfl)) pa_nil))))), ?_⟩
    rcases h with ⟨z, e, rfl, ke, q⟩ | ⟨no, k⟩
    · have me := List.mem_of_find?_eq_some ke
      have ze : e.1 = z := by simpa using List.find?_some ke
      refine ⟨_, rfl, f, dx, _, rfl, ef, get_fno _ _ (by decide +kernel) (by decide +kernel), _, rfl, f, d, c, _, ks, cs, rfl, fa, wd, .inl ⟨z, rfl, List.mem_map.mpr ⟨e, me, ze⟩, ?_⟩⟩
      exact ⟨_, rfl, f, F, dx, _, _, rfl, ef, TF.cl, TF.nk, get_k _ _, _, rfl, d, .ref e.2.2, rfl, dget fa.kds ke, e.2.2, e.2.1, rfl, (fa.kds.2 e me).1, (fa.kds.2 e me).2, q⟩
    · exact ⟨_, rfl, f, dx, _, rfl, ef, get_fno _ _ (by decide +kernel) (by decide +kernel), _, rfl, f, d, c, _, ks, cs, rfl, fa, wd, .inr ⟨no, k⟩⟩
def spNames (F C : Addr) : Sp := fun vs H Q _ => ∃ (f d c : Addr) (ks : Ks) (cs : List V), vs = [.ref f] ∧ FltAt F C H f d c ks cs ∧ ks.length ≤ 5 ∧ ∀ l ys H', List.Perm ys (onceW (ks.map (·.1))) → sortedS ys = true → H l = none → Same H H' → H' l = some (.lst (ys.map V.str)) → Q (.ref l) H'
abbrev s_Fleet_names : Stmt := inClass (top 23) 8
theorem sc_Fleet_names : FnScope ["self"] ["self"] (defScope s_Fleet_names) := ⟨rfl, rfl, rfl, by decide +kernel, rfl, by decide +kernel, by decide +kernel⟩
theorem ok_fnames (D : MetK K F "names" "Fleet.names" s_Fleet_names) (T : Txt K mg C) (TF : FTx K mg F) : Met P w K mg base CX0 1 F "names" (spNames F C) := by
  refine D.met sc_Fleet_names (fun _ _ _ _ _ _ us hl => match us, hl with | [_], _ => rfl) (fun vs H Q E h => ?_) fun f cdv A outer s H vs Q E hr h => ?_
  · obtain ⟨f, d, c, ks, cs, rfl, _⟩ := h; rfl
  · obtain ⟨f, d, c, ks, cs, rfl, fa, few, k⟩ := h
    obtain ⟨dx, ef⟩ := id fa.at_
    refine ⟨_, (pss_one (ps_ret (pe_callB (r := rSortW (cxOf CX0 P w K mg base ["self"] "Fleet.names" (defScope s_Fleet_names) f cdv A outer s H E)) (cr_sortW rfl) (by rfl) T.b_sorted (by decide +kernel) (pa_cons (pe_callTy cr_setWD (by rfl) T.b_set (by decide +kernel) (pa_cons (pe_fld (pv 0) rfl) pa_nil)) pa_nil)))), ?_⟩
    have hk : (kvs ks).map (·.1) = (ks.map (·.1)).map Sum.inr := by
      unfold kvs
      rw [List.map_map, List.map_map]
      rfl
    have hl : (ks.map (·.1)).length ≤ 5 := by rw [List.length_map]; exact few
    refine ⟨_, rfl, f, F, dx, _, _, rfl, ef, TF.cl, TF.nk, get_k _ _, d, kvs ks, ks.map (·.1), rfl, fa.ed, hk, by omega, fun p np => ⟨p, _, rfl, upd_same, ?_, fun ys l pm so nl => ?_⟩⟩
    · have q := onceW_len (ks.map (·.1))
      omega
    · have s1 := same_new (o := SetWO P w p (onceW (ks.map (·.1)))) np
      exact k l ys _ pm so (s1.free nl) (s1.trans (same_new nl)) upd_same
end

end K14

/-! how long data is shown -/
namespace Jg
open PySem PySem.Spec PyProof.Rows L2
/-- d weighs at most n and is at most k deep -/
structure Sb (d : PyData) (n k : Nat) : Prop where
  sh : d.showable = true
  lv : d.leavesShort 100 = true
  bk : d.bulk ≤ n
  dp : d.depth ≤ k
structure SbAll (ds : List PyData) (n k : Nat) : Prop where
  sh : PyData.showableAll ds = true
  lv : PyData.leavesShortAll 100 ds = true
  bk : PyData.bulkAll ds ≤ n
  dp : PyData.depthAll ds ≤ k
theorem Sb.str {z : Str} {n : Nat} (h : z.length ≤ n) (c : ∀ x ∈ z.cps.toList, x < 16 ^ 8) : Sb (.str z) n 0 :=
  ⟨by simp [PyData.showable], by simpa only [PyData.leavesShort, List.all_eq_true, decide_eq_true_eq] using c, h, by simp [PyData.depth]⟩
theorem Sb.int {i : Int} (h : i.natAbs < 10 ^ 9) : Sb (.int i) 0 0 := by
  have z := int_text_length_le10 (k := 9) (by decide) h
  have e : (PyData.int i).shown.length ≤ 100 := by
    show (Str.ofString (toString i)).length ≤ 100
    rw [PySem.ofString_length]
    omega
  refine ⟨?_, by simpa only [PyData.leavesShort, decide_eq_true_eq] using e, Nat.le_refl _, by simp [PyData.depth]⟩
  have l : i.natAbs.log2 < 1920 := Nat.lt_of_lt_of_le (PySem.Flt.log2_lt_of (k := 64) (by decide) (Nat.lt_of_lt_of_le h (by decide +kernel))) (by decide)
  simp [PyData.showable, l]
theorem Sb.non : Sb .none 0 0 := ⟨rfl, rfl, Nat.le_refl _, by simp [PyData.depth]⟩
theorem Sb.bl (b : Bool) : Sb (.bool b) 0 0 := ⟨rfl, rfl, Nat.le_refl _, by simp [PyData.depth]⟩
theorem Sb.mono {d : PyData} {n m k l : Nat} (h : Sb d n k) (h1 : n ≤ m) (h2 : k ≤ l) : Sb d m l := ⟨h.sh, h.lv, Nat.le_trans h.bk h1, Nat.le_trans h.dp h2⟩
theorem SbAll.mono {ds : List PyData} {n m k l : Nat} (h : SbAll ds n k) (h1 : n ≤ m) (h2 : k ≤ l) : SbAll ds m l := ⟨h.sh, h.lv, Nat.le_trans h.bk h1, Nat.le_trans h.dp h2⟩
theorem SbAll.nil {n k : Nat} : SbAll [] n k := ⟨rfl, rfl, Nat.zero_le _, Nat.zero_le _⟩
theorem SbAll.cons {d : PyData} {ds : List PyData} {n m k : Nat} (h1 : Sb d n k) (h2 : SbAll ds m k) : SbAll (d :: ds) (n + 1 + m) k :=
  ⟨by simp only [PyData.showableAll, h1.sh, h2.sh, Bool.and_true], by simp only [PyData.leavesShortAll, h1.lv, h2.lv, Bool.and_true], by
    have a := h1.bk
    have b := h2.bk
    simp only [PyData.bulkAll]; omega, by
    have a := h1.dp
    have b := h2.dp
    simp only [PyData.depthAll]; omega⟩
theorem SbAll.of {n k : Nat} : ∀ {ds : List PyData}, (∀ d ∈ ds, Sb d n k) → SbAll ds (ds.length * (n + 1)) k
  | [], _ => .nil
  | d :: ds, h => (SbAll.cons (h d (List.mem_cons_self ..)) (SbAll.of fun x hx => h x (List.mem_cons_of_mem _ hx))).mono (by rw [List.length_cons, Nat.add_mul]; omega) (Nat.le_refl _)
theorem SbAll.list {ds : List PyData} {n k : Nat} (h : SbAll ds n k) : Sb (.list ds) n (k + 1) :=
  ⟨by simp only [PyData.showable, h.sh], by simp only [PyData.leavesShort, h.lv], h.bk, by
    have a := h.dp
    simp only [PyData.depth]; omega⟩
theorem SbAll.tuple {ds : List PyData} {n k : Nat} (h : SbAll ds n k) : Sb (.tuple ds) n (k + 1) :=
  ⟨by simp only [PyData.showable, h.sh], by simp only [PyData.leavesShort, h.lv], h.bk, by
    have a := h.dp
    simp only [PyData.depth]; omega⟩
theorem sb_kv {n m k : Nat} : ∀ {kvs : List (PyData × PyData)}, (∀ p ∈ kvs, Sb p.1 n k ∧ Sb p.2 m k) → PyData.showableKv kvs = true ∧ PyData.leavesShortKv 100 kvs = true ∧ PyData.bulkKv kvs ≤ kvs.length * (n + m + 2) ∧ PyData.depthKv kvs ≤ k
  | [], _ => ⟨rfl, rfl, Nat.zero_le _, Nat.zero_le _⟩
  | (a, b) :: r, h => by
    obtain ⟨i1, i2, i3, i4⟩ := sb_kv (kvs := r) fun p hp => h p (List.mem_cons_of_mem _ hp)
    obtain ⟨h1, h2⟩ : Sb a n k ∧ Sb b m k := h (a, b) (List.mem_cons_self ..)
    refine ⟨by simp only [PyData.showableKv, h1.sh, h2.sh, i1, Bool.and_true], by simp only [PyData.leavesShortKv, h1.lv, h2.lv, i2, Bool.and_true], ?_, ?_⟩
    · have x := h1.bk
      have y := h2.bk
      simp only [PyData.bulkKv]
      rw [List.length_cons, Nat.add_mul]; omega
    · have x := h1.dp
      have y := h2.dp
      simp only [PyData.depthKv]; omega
theorem Sb.dict {kvs : List (PyData × PyData)} {n m k : Nat} (h : ∀ p ∈ kvs, Sb p.1 n k ∧ Sb p.2 m k) : Sb (.dict kvs) (kvs.length * (n + m + 2)) (k + 1) := by
  obtain ⟨i1, i2, i3, i4⟩ := sb_kv h
  exact ⟨by simp only [PyData.showable, i1], by simp only [PyData.leavesShort, i2], i3, by simp only [PyData.depth]; omega⟩
theorem Sb.len {d : PyData} {n k : Nat} (h : Sb d n k) (z : n ≤ 160000) : d.shown.length ≤ sizeLine := by
  have e := PyData.shown_le_bulk 100 (by decide) d h.lv
  have b := h.bk
  rw [sizeLine_eq]; omega
/-- as repr asks for it -/
theorem Sb.ask {d : PyData} {n k : Nat} (h : Sb d n k) (z : n ≤ 160000) (hk : k ≤ 40) : d.showable = true ∧ d.depth ≤ 40 ∧ d.shown.length ≤ sizeLine := ⟨h.sh, Nat.le_trans h.dp hk, h.len z⟩
end Jg

namespace K14
open PySem PySem.Spec PyProof.Rows L2 Jg
local macro_rules | `(tactic| walk_at "rd1") => `(tactic| (first
  | refine ⟨_, rfl, ?_⟩
  | refine ⟨_, _, rfl, rfl, ?_⟩
  | refine ⟨_, _, rfl, ?_⟩
  | refine ⟨rfl, ?_⟩
  | (refine ⟨show (0 : Int) < _ by omega, ?_⟩)
  | (refine ⟨Or.inl ⟨by omega, by omega⟩, ?_⟩)
  | (refine ⟨Or.inr ⟨by omega, by omega⟩, ?_⟩)
  | (refine ⟨(⟨by decide, by decide, by decide⟩ : CPow _ _), ?_⟩)
  | refine Or.inl ⟨_, rfl, ?_⟩
  | refine Or.inr ⟨_, rfl, ?_⟩
  | fail "rd"))
local macro_rules | `(tactic| walk_at "rd") => `(tactic| repeat' walk_at "rd1")


/-! calls of a fleet -/
structure TxM (K : PySem.W.Frag) (mg : Str → Option Value) : Prop where
  gMOST_CALLS : ∃ u, mg "MOST_CALLS" = some u ∧ L2.RelV (.int 6) u
  b_zip : mg "zip" = none
def spCalls (F C : Addr) : Sp := fun vs H Q _ => ∃ (f d c : Addr) (ks : Ks) (cs : List V), vs = [.ref f] ∧ FltAt F C H f d c ks cs ∧ ∀ l, H l = none → Q (.ref l) (upd H l (.lst cs))
def callT (z0 z1 z2 : Str) (i : Int) : List V := [.str z0, .str z1, .str z2, .int i]
def spAdd (K : PySem.W.Frag) (F C CA CU CM CO : Addr) : Sp := fun vs H Q E => ∃ (f d c : Addr) (y0 y1 y2 y3 : V) (ks : Ks) (cs : List V), vs = [.ref f, y0, y1, y2, y3] ∧ FltAt F C H f d c ks cs ∧ WdKs ks ∧
  ((BadW K H y0 ∧ ∀ d' H', H d' = none → H' d' = some (.xd [(("value" : Str), y0)]) → Same H H' → E (.ref CA) (some d') H') ∨ ∃ z0, y0 = .str z0 ∧ z0.length ≤ sizeLine ∧ wordB z0 = true ∧
  ((NoKind K H ks y1 ∧ ∀ d' H', H d' = none → H' d' = some (.xd [(("name" : Str), y1)]) → Same H H' → E (.ref CU) (some d') H') ∨ ∃ z1, y1 = .str z1 ∧ z1 ∈ ks.map (·.1) ∧
  ((NoKind K H ks y2 ∧ ∀ d' H', H d' = none → H' d' = some (.xd [(("name" : Str), y2)]) → Same H H' → E (.ref CU) (some d') H') ∨ ∃ z2, y2 = .str z2 ∧ z2 ∈ ks.map (·.1) ∧
  ((BadR K H 0 L y3 ∧ ∀ d' H', H d' = none → H' d' = some (.xd [(("value" : Str), y3)]) → Same H H' → E (.ref CM) (some d') H') ∨ ∃ i, y3 = .int i ∧ 0 ≤ i ∧ i ≤ L ∧
  ((cs.length = 6 ∧ ∀ d' H', H d' = none → H' d' = some (.xd [(("limit" : Str), .int 6)]) → Same H H' → E (.ref CO) (some d') H') ∨
   (cs.length < 6 ∧ ∀ t, H t = none → Q (.int cs.length) (upd (upd H t (.tup (callT z0 z1 z2 i))) c (.lst (cs ++ [.ref t])))))))))
section
variable {P : Program} {w : World} {K : PySem.W.Frag} {mg : Str → Option Value} {base : Heap} {C CA CU CM CO FC : Addr}
abbrev s_InvalidCall_init : Stmt := inClass (top 5) 0
theorem sc_InvalidCall_init : FnScope ["self", "value"] ["self", "value"] (defScope s_InvalidCall_init) := ⟨rfl, rfl, rfl, by decide +kernel, rfl, by decide +kernel, by decide +kernel⟩
theorem ok_cinit (D : ExnQ K mg "InvalidCall" CA "InvalidCall.__init__" s_InvalidCall_init "value") : ExnB P w K mg base 1 "InvalidCall" CA (spX CA "value") := by
  obtain ⟨fI, fd, F, a, ty⟩ := D.ini
  refine ⟨D.mg_, D.ovr, fI, fd, _, F.ok sc_InvalidCall_init (fun vs H Q E h => ?_) (fun cdv A outer s H vs Q E hr h => ?_), a, ty, F.binds (fun _ _ _ _ _ _ us hl => match us, hl with | [_, _], _ => rfl)⟩
  · obtain ⟨a, y, rfl, _⟩ := h; rfl
  · obtain ⟨a, y, rfl, ha, k⟩ := h
    exact ⟨_, (pss_one (ps_keep (pv 0) (pv 1))), _, rfl, _, rfl, a, CA, rfl, D.ovr, D.no, ha, fun dx n e => k dx n e⟩
abbrev s_InvalidMoment_init : Stmt := inClass (top 3) 0
theorem sc_InvalidMoment_init : FnScope ["self", "value"] ["self", "value"] (defScope s_InvalidMoment_init) := ⟨rfl, rfl, rfl, by decide +kernel, rfl, by decide +kernel, by decide +kernel⟩
theorem ok_minit (D : ExnQ K mg "InvalidMoment" CM "InvalidMoment.__init__" s_InvalidMoment_init "value") : ExnB P w K mg base 1 "InvalidMoment" CM (spX CM "value") := by
  obtain ⟨fI, fd, F, a, ty⟩ := D.ini
  refine ⟨D.mg_, D.ovr, fI, fd, _, F.ok sc_InvalidMoment_init (fun vs H Q E h => ?_) (fun cdv A outer s H vs Q E hr h => ?_), a, ty, F.binds (fun _ _ _ _ _ _ us hl => match us, hl with | [_, _], _ => rfl)⟩
  · obtain ⟨a, y, rfl, _⟩ := h; rfl
  · obtain ⟨a, y, rfl, ha, k⟩ := h
    exact ⟨_, (pss_one (ps_keep (pv 0) (pv 1))), _, rfl, _, rfl, a, CM, rfl, D.ovr, D.no, ha, fun dx n e => k dx n e⟩
abbrev s_Fleet_calls : Stmt := inClass (top 23) 12
theorem sc_Fleet_calls : FnScope ["self"] ["self"] (defScope s_Fleet_calls) := ⟨rfl, rfl, rfl, by decide +kernel, rfl, by decide +kernel, by decide +kernel⟩
theorem ok_fcalls (D : MetK K FC "calls" "Fleet.calls" s_Fleet_calls) (T : Txt K mg C) (TF : FTx K mg FC) : Met P w K mg base CX0 1 FC "calls" (spCalls FC C) := by
  refine D.met sc_Fleet_calls (fun _ _ _ _ _ _ us hl => match us, hl with | [_], _ => rfl) (fun vs H Q E h => ?_) fun f cdv A outer s H vs Q E hr h => ?_
  · obtain ⟨f, d, c, ks, cs, rfl, _⟩ := h; rfl
  · obtain ⟨f, d, c, ks, cs, rfl, fa, k⟩ := h
    obtain ⟨dx, ef⟩ := id fa.at_
    refine ⟨_, (pss_one (ps_ret (pe_callTy (r := rListOf K) cr_listOf (by rfl) T.b_list (by decide +kernel) (pa_cons (pe_fld (pv 0) rfl) pa_nil)))), ?_⟩
    exact ⟨_, rfl, f, FC, dx, _, _, rfl, ef, TF.cl, TF.nc, get_c _ _, c, cs, rfl, .inl (SqL.of fa.cal), fun l nl => k l nl⟩
abbrev s_Fleet_add_call : Stmt := inClass (top 23) 11
theorem sc_Fleet_add_call : FnScope ["self", "role", "client", "server", "life"] ["self", "role", "client", "server", "life"] (defScope s_Fleet_add_call) := ⟨rfl, rfl, rfl, by decide +kernel, rfl, by decide +kernel, by decide +kernel⟩
theorem body_add (T : Txt K mg C) (T4 : TxM K mg) (TF : FTx K mg FC) (M_check : Met P w K mg base (L2.CX P w) 3 FC "_check" (spCheck K FC C CU)) (G_is_word : Cal P w K mg base CX0 1 "is_word" (spWord K)) (G_is_between : Cal P w K mg base CX0 2 "is_between" (spBtwn K)) (G_InvalidCall : ExnB P w K mg base 1 "InvalidCall" CA (spX CA "value")) (G_InvalidMoment : ExnB P w K mg base 1 "InvalidMoment" CM (spX CM "value")) (G_LimitExceeded : ExnB P w K mg base 1 "LimitExceeded" CO (spX CO "limit"))
    (ff : Addr) : BodyX P w K mg base ["self", "role", "client", "server", "life"] "Fleet.add_call" s_Fleet_add_call ff 4 (spAdd K FC C CA CU CM CO) := by
  intro cdv A outer s H vs Q E hr h
  obtain ⟨f, d, c, y0, y1, y2, y3, ks, cs, rfl, fa, wd, h⟩ := h
  refine ⟨_, (pss_cons (ps_if (pt_not (pt_val (pe_c G_is_word hr (by decide) rfl (pa_cons (pv 1) pa_nil)))) (pss_one (ps_raise rfl (takes_of rfl rfl rfl rfl) (pmk_b G_InvalidCall hr (by decide) rfl (pa_cons (pv 1) pa_nil)))) pss_nil)
      (pss_cons (ps_expr (pe_mS M_check TF.cl (takes_of rfl rfl rfl rfl) hr (by decide) (pv 0) (pa_cons (pv 2) pa_nil)))
      (pss_cons (ps_expr (pe_mS M_check TF.cl (takes_of rfl rfl rfl rfl) hr (by decide) (pv 0) (pa_cons (pv 3) pa_nil)))
      (pss_cons (ps_if (pt_not (pt_val (pe_c G_is_between hr (by decide) rfl (pa_cons (pv 4) (pa_cons pe_int (pa_cons (pe_gc rfl T.gLONGEST) pa_nil)))))) (pss_one (ps_raise rfl (takes_of rfl rfl rfl rfl) (pmk_b G_InvalidMoment hr (by decide) rfl (pa_cons (pv 4) pa_nil)))) pss_nil)
      (pss_cons (ps_if (pt_cmpR op_eq (pe_callB (r := rLenL K) (call_lenK rfl) (by rfl) T.b_len (by decide +kernel) (pa_cons (pe_fld (pv 0) rfl) pa_nil)) (pe_gc rfl T4.gMOST_CALLS) (nomark _)) (pss_one (ps_raise rfl (takes_of rfl rfl rfl rfl) (pmk_b G_LimitExceeded hr (by decide) rfl (pa_cons (pe_gc rfl T4.gMOST_CALLS) pa_nil)))) pss_nil)
      (pss_cons (ps_expr (pe_bm F.plainAttrs_list F.slot_list_append F.type_list_append mt_append (pe_fld (pv 0) rfl) (pa_cons (pe_tup (pa_cons (pv 1) (pa_cons (pv 2) (pa_cons (pv 3) (pa_cons (pv 4) pa_nil))))) pa_nil)))
      (pss_one (ps_ret (pe_op op_sub (pe_callB (r := rLenL K) (call_lenK rfl) (by rfl) T.b_len (by decide +kernel) (pa_cons (pe_fld (pv 0) rfl) pa_nil)) pe_int))))))))), ?_⟩
  obtain ⟨dx, ef⟩ := id fa.at_
  have gf : ∀ {m : Str}, (m == ("_kinds" : Str)) = false → (m == ("_calls" : Str)) = false → (K14.ff d c).lookup m = none := fun h1 h2 => get_fno d c h1 h2
  rcases h with ⟨bad, k⟩ | ⟨z0, rfl, hz0, wz0, h⟩
  · rcases bad with ⟨z, rfl, hz, wz⟩ | ⟨t, ty, kt⟩
    · refine ⟨_, rfl, .str z, rfl, .inl ⟨z, rfl, hz, _, rfl, ?_⟩⟩
      rw [wz]
      exact iteT ⟨_, rfl, x_read fun d nd => k d _ nd upd_same (same_new nd)⟩
    · exact ⟨_, rfl, y0, rfl, .inr ⟨t, ty _ (.refl _), kt, _, rfl, iteT ⟨_, rfl, x_read fun d nd => k d _ nd upd_same (same_new nd)⟩⟩⟩
  refine ⟨_, rfl, .str z0, rfl, .inl ⟨z0, rfl, hz0, _, rfl, ?_⟩⟩
  rw [wz0]
  refine iteF ?_
  rcases h with ⟨bad, k⟩ | ⟨z1, rfl, m1, h⟩
  · exact ⟨_, rfl, f, dx, _, rfl, ef, get_fno _ _ (by decide +kernel) (by decide +kernel), _, rfl, f, d, c, _, ks, cs, rfl, fa, wd, .inr ⟨bad, k⟩⟩
  refine ⟨_, rfl, f, dx, _, rfl, ef, get_fno _ _ (by decide +kernel) (by decide +kernel), _, rfl, f, d, c, _, ks, cs, rfl, fa, wd, .inl ⟨z1, rfl, m1, ?_⟩⟩
  rcases h with ⟨bad, k⟩ | ⟨z2, rfl, m2, h⟩
  · exact ⟨_, rfl, f, dx, _, rfl, ef, get_fno _ _ (by decide +kernel) (by decide +kernel), _, rfl, f, d, c, _, ks, cs, rfl, fa, wd, .inr ⟨bad, k⟩⟩
  refine ⟨_, rfl, f, dx, _, rfl, ef, get_fno _ _ (by decide +kernel) (by decide +kernel), _, rfl, f, d, c, _, ks, cs, rfl, fa, wd, .inl ⟨z2, rfl, m2, ?_⟩⟩
  rcases h with ⟨bad, k⟩ | ⟨i, rfl, i0, iL, h⟩
  · rcases bad with ⟨i, rfl, e⟩ | no
    · refine ⟨_, rfl, .int i, 0, L, rfl, .inl ⟨i, rfl, _, rfl, ?_⟩⟩
      rw [e]
      exact iteT ⟨_, rfl, x_read fun d nd => k d _ nd upd_same (same_new nd)⟩
    · exact ⟨_, rfl, y3, 0, L, rfl, .inr ⟨no, _, rfl, iteT ⟨_, rfl, x_read fun d nd => k d _ nd upd_same (same_new nd)⟩⟩⟩
  refine ⟨_, rfl, .int i, 0, L, rfl, .inl ⟨i, rfl, _, rfl, ?_⟩⟩
  rw [decide_eq_true i0, decide_eq_true iL]
  refine iteF ?_
  have ec := fa.cal
  have cf : c ≠ f := fun q => by rw [q, ef] at ec; cases ec
  refine ⟨_, rfl, f, FC, dx, _, _, rfl, ef, TF.cl, TF.nc, get_c _ _, c, cs, rfl, SqL.of ec, rfl, _, rfl, ?_⟩
  rcases h with ⟨l6, k⟩ | ⟨l6, k⟩
  · exact iteTe (show decide (V.int (cs.length : Int) = V.int 6) = true from decide_eq_true (by rw [l6]; rfl)) (x_read fun d nd => k d _ nd upd_same (same_new nd))
  · refine iteFe (show decide (V.int (cs.length : Int) = V.int 6) = false from decide_eq_false fun q => by injection q with q; omega) ?_
    refine ⟨_, rfl, f, FC, dx, _, _, rfl, ef, TF.cl, TF.nc, get_c _ _, .inl ⟨rfl, _, .inl (.inl ec)⟩, _, rfl, _, rfl, _, rfl, _, rfl, (by show 4 ≤ sizeLine; decide), fun t nt => ?_⟩
    have tc : t ≠ c := fun q => by rw [q, ec] at nt; cases nt
    have ec1 := (same_new (o := .tup (callT z0 z1 z2 i)) nt) _ _ ec
    have ef1 := (same_new (o := .tup (callT z0 z1 z2 i)) nt) _ _ ef
    refine ⟨c, cs, _, rfl, rfl, ec1, by rw [sizeLine_eq]; omega, ?_⟩
    refine ⟨_, rfl, f, FC, dx, _, _, rfl, by rw [upd_ne cf.symm]; exact ef1, TF.cl, TF.nc, get_c _ _, c, _, rfl, SqL.of upd_same, _, _, rfl, rfl, ?_⟩
    show Q (.int ((((cs ++ [V.ref t]).length : Nat) : Int) - 1)) _
    rw [show (((cs ++ [V.ref t]).length : Nat) : Int) - 1 = (cs.length : Int) by rw [List.length_append]; show ((cs.length + 1 : Nat) : Int) - 1 = _; omega]
    exact k t nt
end

end K14

namespace K14
open PySem PySem.Spec PyProof.Rows L2 Jg
local macro_rules | `(tactic| walk_at "rd1") => `(tactic| (first
  | refine ⟨_, rfl, ?_⟩
  | refine ⟨_, _, rfl, rfl, ?_⟩
  | refine ⟨_, _, rfl, ?_⟩
  | refine ⟨rfl, ?_⟩
  | (refine ⟨show (0 : Int) < _ by omega, ?_⟩)
  | (refine ⟨Or.inl ⟨by omega, by omega⟩, ?_⟩)
  | (refine ⟨Or.inr ⟨by omega, by omega⟩, ?_⟩)
  | (refine ⟨(⟨by decide, by decide, by decide⟩ : CPow _ _), ?_⟩)
  | refine Or.inl ⟨_, rfl, ?_⟩
  | refine Or.inr ⟨_, rfl, ?_⟩
  | fail "rd"))
local macro_rules | `(tactic| walk_at "rd") => `(tactic| repeat' walk_at "rd1")


/-! a call is added, by the law -/
structure TstA (K : PySem.W.Frag) (mg : Str → Option Value) (CA CU CM CO CG : Addr) : Prop where
  gGap : mg "GapError" = some (.ref CG)
  bL : mg "LookupError" = none
  bO : mg "OverflowError" = none
  kAG : PySem.W.kitOne K (.ref CA) (.ref CG) = some true
  kAM : PySem.W.kitOne K (.ref CA) (.ref CM) = some false
  kMG : PySem.W.kitOne K (.ref CM) (.ref CG) = some true
  kMA : PySem.W.kitOne K (.ref CM) (.ref CA) = some false
  kL : PySem.W.kitOne K (.ref CU) (.type "LookupError") = some true
  kO : PySem.W.kitOne K (.ref CO) (.type "OverflowError") = some true
  xUA : PySem.W.exmOne K (.ref CU) (.ref CA) = some false
  xMA : PySem.W.exmOne K (.ref CM) (.ref CA) = some false
  xMU : PySem.W.exmOne K (.ref CM) (.ref CU) = some false
  xOA : PySem.W.exmOne K (.ref CO) (.ref CA) = some false
  xOU : PySem.W.exmOne K (.ref CO) (.ref CU) = some false
  xOM : PySem.W.exmOne K (.ref CO) (.ref CM) = some false
/-- what the law expects to be refused: as kd, with pay, which is shown as tx -/
def BadC (K : PySem.W.Frag) (H : Hp) (ks : Ks) (n : Nat) (y0 y1 y2 y3 : V) (kd tx : Str) : Prop := ∃ pay, (∀ H', Same H H' → Shw K H' pay tx) ∧
  ((kd = "role" ∧ pay = y0 ∧ BadW K H y0) ∨ ∃ z0, y0 = .str z0 ∧ z0.length ≤ sizeLine ∧ wordB z0 = true ∧
  ((kd = "name" ∧ pay = y1 ∧ NoKind K H ks y1) ∨ ∃ z1, y1 = .str z1 ∧ z1 ∈ ks.map (·.1) ∧
  ((kd = "name" ∧ pay = y2 ∧ NoKind K H ks y2) ∨ ∃ z2, y2 = .str z2 ∧ z2 ∈ ks.map (·.1) ∧
  ((kd = "life" ∧ pay = y3 ∧ BadR K H 0 L y3) ∨ ∃ i, y3 = .int i ∧ 0 ≤ i ∧ i ≤ L ∧ kd = "limit" ∧ pay = .int 6 ∧ n = 6))))
structure GoodC (ks : Ks) (n : Nat) (y0 y1 y2 y3 : V) (z0 z1 z2 : Str) (i : Int) : Prop where
  e0 : y0 = .str z0
  e1 : y1 = .str z1
  e2 : y2 = .str z2
  e3 : y3 = .int i
  w0 : z0.length ≤ sizeLine ∧ wordB z0 = true
  m1 : z1 ∈ ks.map (·.1)
  m2 : z2 ∈ ks.map (·.1)
  i0 : 0 ≤ i
  iL : i ≤ L
  n6 : n < 6
theorem BadC.keep {K : PySem.W.Frag} {H H' : Hp} {ks : Ks} {n : Nat} {y0 y1 y2 y3 : V} {kd tx : Str} (h : BadC K H ks n y0 y1 y2 y3 kd tx) (s : Same H H') : BadC K H' ks n y0 y1 y2 y3 kd tx := by
  obtain ⟨pay, sh, h⟩ := h
  refine ⟨pay, fun H2 s2 => sh H2 (s.trans s2), ?_⟩
  rcases h with ⟨a, b, h⟩ | ⟨z0, a0, b0, c0, h⟩
  · exact .inl ⟨a, b, h.keep s⟩
  refine .inr ⟨z0, a0, b0, c0, ?_⟩
  rcases h with ⟨a, b, h⟩ | ⟨z1, a1, b1, h⟩
  · exact .inl ⟨a, b, h.keep s⟩
  refine .inr ⟨z1, a1, b1, ?_⟩
  rcases h with ⟨a, b, h⟩ | ⟨z2, a2, b2, h⟩
  · exact .inl ⟨a, b, h.keep s⟩
  refine .inr ⟨z2, a2, b2, ?_⟩
  rcases h with ⟨a, b, h⟩ | h
  · exact .inl ⟨a, b, h.keep s⟩
  · exact .inr h
/-- only the names of the fleet matter -/
theorem NoKind.ks {K : PySem.W.Frag} {H : Hp} {ks rs : Ks} {y : V} (h : NoKind K H ks y) (e : ks.map (·.1) = rs.map (·.1)) : NoKind K H rs y := by
  rcases h with ⟨z, a, b, c⟩ | h
  · exact .inl ⟨z, a, b, fun w => e ▸ c w⟩
  · exact .inr h
def gA4 : List V → List V → List V := fun vs zs => vs ++ zs
structure TxOk (kd tx : Str) : Prop where
  k : PyData.strOk kd = true
  t : PyData.strOk tx = true
  kl : kd.length ≤ 200
  tl : tx.length ≤ 200
/-- a call: what stands in its tuple -/
structure Call where
  a : Str
  b : Str
  c : Str
  i : Int
def Call.t (r : Call) : List V := callT r.a r.b r.c r.i
def Call.ok (r : Call) : Prop := Wd r.a ∧ Wd r.b ∧ Wd r.c ∧ 0 ≤ r.i ∧ r.i ≤ L
def Call.d (r : Call) : PyData := .tuple [.str r.a, .str r.b, .str r.c, .int r.i]
/-- what comes of a drawn call: it is refused so, or added -/
abbrev Oc := (Str × Str) ⊕ Call
def DueL (n : Nat) : Oc → List V
  | .inl k => [.str k.1, .str k.2, .bl true]
  | .inr _ => [.str "added", .int n]
def CaseC (K : PySem.W.Frag) (H : Hp) (ks : Ks) (n : Nat) (y0 y1 y2 y3 : V) : Oc → Prop
  | .inl k => BadC K H ks n y0 y1 y2 y3 k.1 k.2 ∧ TxOk k.1 k.2
  | .inr r => GoodC ks n y0 y1 y2 y3 r.a r.b r.c r.i ∧ Wd r.a
theorem CaseC.keep {K : PySem.W.Frag} {H H' : Hp} {ks : Ks} {n : Nat} {y0 y1 y2 y3 : V} {oc : Oc} (h : CaseC K H ks n y0 y1 y2 y3 oc) (s : Same H H') : CaseC K H' ks n y0 y1 y2 y3 oc := by
  cases oc with
  | inl k => exact ⟨h.1.keep s, h.2⟩
  | inr r => exact h
def AddP (c : Addr) (cs : List V) (H H' : Hp) : Oc → Prop
  | .inl _ => Same H H'
  | .inr r => ∃ t, H t = none ∧ H' c = some (.lst (cs ++ [.ref t])) ∧ H' t = some (.tup r.t) ∧ ∀ b o, H b = some o → b ≠ c → H' b = some o
def spLAdd (K : PySem.W.Frag) (F C : Addr) : Sp := fun vs H Q _ => ∃ (f d c lr : Addr) (y0 y1 y2 y3 : V) (ks : Ks) (cs : List V) (oc : Oc), vs = [.ref f, .ref lr] ∧ FltAt F C H f d c ks cs ∧ WdKs ks ∧ H lr = some (.lst [y0, y1, y2, y3]) ∧ CaseC K H ks cs.length y0 y1 y2 y3 oc ∧
  ∀ l H', H l = none → AddP c cs H H' oc → H' l = some (.lst (DueL cs.length oc)) → Q (.ref l) H'
section
variable {P : Program} {w : World} {K : PySem.W.Frag} {mg : Str → Option Value} {base : Heap} {C CA CU CM CO CG FC : Addr} {st1 st2 st3 st4 : Stmt}
/-- a try in a loop: its reading by a name -/
def tTry (tb : WX → TS) (w : Ends → WX) : TS := fun D σ H => tb (w D) D σ H
theorem ps_tryT {X : Cx} {Wout : WX} {body : List Stmt} {h₀ : ExceptHandler} {hds : List ExceptHandler} {w : Ends → WX} {pos : Pos} {tb : WX → TS} (hd : Hds X Wout (h₀ :: hds) w) (hs : X.stack = X.env :: X.outer) (fr : X.env.frame = some X.env.locals) (hN : X.N.Nodup) (tk : Takes X Wout)
    (hb : ∀ (W : WX) (pn : List (Addr × Obj)) (xe : Value → Shared → Prop), Takes (X.tr pn xe) W → PassesOwn (model X.prog X.w) X.A X.env xe → PSs (X.tr pn xe) body (tb W)) :
    PS X (.Try body (h₀ :: hds) [] [] pos) (tTry tb w) := ps_try hd hs fr hN tk hb
abbrev s_law_add : Stmt := top 29
theorem sc_law_add : FnScope ["fleet", "row", "e"] ["fleet", "row"] (defScope s_law_add) := ⟨rfl, rfl, rfl, by decide +kernel, rfl, by decide +kernel, by decide +kernel⟩
theorem ok_add (D : DefK K mg "_law_add" s_law_add) (T : Txt K mg C) (TF : FTx K mg FC) (A4 : ExnQ K mg "InvalidCall" CA "InvalidCall.__init__" st1 "value") (U : ExnQ K mg "UnknownName" CU "UnknownName.__init__" st2 "name") (M4 : ExnQ K mg "InvalidMoment" CM "InvalidMoment.__init__" st3 "value") (O : ExnQ K mg "LimitExceeded" CO "LimitExceeded.__init__" st4 "limit") (W9 : TstA K mg CA CU CM CO CG)
    (M_add : MetW P w K mg base (L2.CX P w) 5 FC "add_call" 4 ["life"] gA4 (spAdd K FC C CA CU CM CO)) : CalG P w K mg base CX0 6 "_law_add" (spLAdd K FC C) := by
  refine D.calG sc_law_add (fun _ _ _ _ _ _ us hl => match us, hl with | [_, _], _ => rfl) (fun vs H Q E h => ?_) fun f0 cdv A outer s H vs Q E g hr h => ?_
  · obtain ⟨f, d, c, lr, y0, y1, y2, y3, ks, cs, oc, rfl, _⟩ := h; rfl
  · obtain ⟨f, d, c, lr, y0, y1, y2, y3, ks, cs, oc, rfl, fa, wd, er, ca, k⟩ := h
    have h : (∃ kd tx, BadC K H ks cs.length y0 y1 y2 y3 kd tx ∧ ∀ l H', H l = none → Same H H' → H' l = some (.lst [.str kd, .str tx, .bl true]) → Q (.ref l) H') ∨
        (∃ z0 z1 z2 i, GoodC ks cs.length y0 y1 y2 y3 z0 z1 z2 i ∧ ∀ l t H', H l = none → H t = none → H' c = some (.lst (cs ++ [.ref t])) → H' t = some (.tup (callT z0 z1 z2 i)) → (∀ b o, H b = some o → b ≠ c → H' b = some o) → H' l = some (.lst [.str "added", .int cs.length]) → Q (.ref l) H') := by
      cases oc with
      | inl kk => exact .inl ⟨kk.1, kk.2, ca.1, fun l H' nl s el => k l H' nl s el⟩
      | inr r => exact .inr ⟨r.a, r.b, r.c, r.i, ca.1, fun l t H' nl nt ec et s el => k l H' nl ⟨t, nt, ec, et, s⟩ el⟩
    clear k ca
    have hu : (A.deeper (envOfC _ _ _ f0 cdv)).units + 64 < cLine := hr.units
    have gGap := W9.gGap
    have bL := W9.bL
    have bO := W9.bO
    have hrep : ∀ (a : Addr) (oe : Obj) (pn : List (Addr × Obj)), CallR ((cxOf CX0 P w K mg base ["fleet", "row", "e"] "_law_add" (defScope s_law_add) f0 cdv A outer s H E).nox.suite a ((a, oe) :: pn)) (.builtin "repr") (rShw K) := fun a oe pn => call_shw g hu
    refine ⟨_, (pss_one (ps_tryT (.named (i := 2) rfl rfl ⟨rfl, by decide, .inl A4.mg_⟩ (fun a oe cls d pn hz hf => pss_one (ps_ret (pe_lst (pa_cons pe_str (pa_cons (pe_callB (hrep a oe pn) (by rfl) T.b_repr (by decide +kernel) (pa_cons (pe_xf A4.xk.xf A4.no hz hf (pv 2)) pa_nil)) (pa_cons (pe_and (pe_callB (call_isX A4.xk hz hf) (by rfl) T.b_isinstance (by decide +kernel) (pa_cons (pv 2) (pa_cons (pe_glob (v := .ref CG) rfl gGap rfl) pa_nil))) (pe_one (pe_not (pe_callB (call_isX A4.xk hz hf) (by rfl) T.b_isinstance (by decide +kernel) (pa_cons (pv 2) (pa_cons (pe_glob (v := .ref CM) rfl M4.mg_ rfl) pa_nil)))))) pa_nil)))))) (.named (i := 2) rfl rfl ⟨rfl, by decide, .inl U.mg_⟩ (fun a oe cls d pn hz hf => pss_one (ps_ret (pe_lst (pa_cons pe_str (pa_cons (pe_callB (hrep a oe pn) (by rfl) T.b_repr (by decide +kernel) (pa_cons (pe_xf U.xk.xf U.no hz hf (pv 2)) pa_nil)) (pa_cons (pe_callB (call_isX U.xk hz hf) (by rfl) T.b_isinstance (by decide +kernel) (pa_cons (pv 2) (pa_cons (pe_ty (n := "LookupError") (by rfl) bL (by decide +kernel)) pa_nil))) pa_nil)))))) (.named (i := 2) rfl rfl ⟨rfl, by decide, .inl M4.mg_⟩ (fun a oe cls d pn hz hf => pss_one (ps_ret (pe_lst (pa_cons pe_str (pa_cons (pe_callB (hrep a oe pn) (by rfl) T.b_repr (by decide +kernel) (pa_cons (pe_xf M4.xk.xf M4.no hz hf (pv 2)) pa_nil)) (pa_cons (pe_and (pe_callB (call_isX M4.xk hz hf) (by rfl) T.b_isinstance (by decide +kernel) (pa_cons (pv 2) (pa_cons (pe_glob (v := .ref CG) rfl gGap rfl) pa_nil))) (pe_one (pe_not (pe_callB (call_isX M4.xk hz hf) (by rfl) T.b_isinstance (by decide +kernel) (pa_cons (pv 2) (pa_cons (pe_glob (v := .ref CA) rfl A4.mg_ rfl) pa_nil)))))) pa_nil)))))) (.named (i := 2) rfl rfl ⟨rfl, by decide, .inl O.mg_⟩ (fun a oe cls d pn hz hf => pss_one (ps_ret (pe_lst (pa_cons pe_str (pa_cons (pe_callB (hrep a oe pn) (by rfl) T.b_repr (by decide +kernel) (pa_cons (pe_xf O.xk.xf O.no hz hf (pv 2)) pa_nil)) (pa_cons (pe_callB (call_isX O.xk hz hf) (by rfl) T.b_isinstance (by decide +kernel) (pa_cons (pv 2) (pa_cons (pe_ty (n := "OverflowError") (by rfl) bO (by decide +kernel)) pa_nil))) pa_nil)))))) .cut)))) rfl rfl sc_law_add.nd takes0 (fun W pn xe tk _ => pss_one (ps_ret (pe_lst (pa_cons pe_str (pa_cons (pe_mKS M_add TF.cl tk hr (by decide) (pv 0) (pa_cons (pe_ix (r := rIxL K) ix_list (pv 1) pe_int (fun _ _ => rfl)) (pa_cons (pe_ix (r := rIxL K) ix_list (pv 1) pe_int (fun _ _ => rfl)) (pa_cons (pe_ix (r := rIxL K) ix_list (pv 1) pe_int (fun _ _ => rfl)) pa_nil))) (pk_cons (pe_ix (r := rIxL K) ix_list (pv 1) pe_int (fun _ _ => rfl)) pk_nil)) pa_nil))))))), ?_⟩
    obtain ⟨dxf, ef⟩ := id fa.at_
    have q0 : SqL K H lr [y0, y1, y2, y3] := SqL.of er
    refine ⟨_, rfl, f, dxf, _, rfl, ef, get_fno _ _ (by decide +kernel) (by decide +kernel), _, rfl, lr, _, 0, y0, rfl, rfl, q0, rfl, _, rfl, lr, _, 1, y1, rfl, rfl, q0, rfl, _, rfl, lr, _, 2, y2, rfl, rfl, q0, rfl, _, rfl, lr, _, 3, y3, rfl, rfl, q0, rfl, rfl, rfl, f, d, c, y0, y1, y2, y3, ks, cs, rfl, fa, wd, ?_⟩
    have aa : ∀ (pay : V) (tx : Str) (H2 : Hp), Same H H2 → (∀ H', Same H H' → Shw K H' pay tx) → Shw K H2 pay tx := fun pay tx H2 s2 sh => sh _ s2
    rcases h with ⟨kd, tx, ⟨pay, sh, bad⟩, k⟩ | ⟨z0, z1, z2, i, gd, k⟩
    · rcases bad with ⟨rfl, rfl, bad⟩ | ⟨z0, rfl, hz0, wz0, bad⟩
      · refine .inl ⟨bad, fun d' H2 nd' ed s2 => ⟨true, A4.te, fun _ a na => ?_, fun z => nomatch z⟩⟩
        refine ⟨_, rfl, rfl, rfl, d', _, pay, rfl, ed, rfl, pay, tx, rfl, sh _ s2, ?_⟩
        exact ⟨_, rfl, .ref CG, .ref CG, true, d', _, rfl, rfl, rfl, ed, fun _ z => z, W9.kAG, true, rfl, iteT ⟨_, rfl, .ref CM, .ref CM, false, d', _, rfl, rfl, rfl, ed, fun _ z => z, W9.kAM, false, rfl, by show 3 ≤ sizeLine; decide, fun l nl => k l _ (s2.free nl) (same_new' s2 nl) upd_same⟩⟩
      · refine .inr ⟨z0, rfl, hz0, wz0, ?_⟩
        rcases bad with ⟨rfl, rfl, bad⟩ | ⟨z1, rfl, m1, bad⟩
        · refine .inl ⟨bad, fun d' H2 nd' ed s2 => ⟨false, W9.xUA, (fun z => nomatch z), fun _ => ⟨true, U.te, fun _ a na => ?_, fun z => nomatch z⟩⟩⟩
          refine ⟨_, rfl, rfl, rfl, d', _, _, rfl, ed, rfl, _, tx, rfl, sh _ s2, ?_⟩
          exact ⟨_, rfl, .ty "LookupError", .type "LookupError", true, d', _, rfl, rfl, rfl, ed, fun _ z => z, W9.kL, by show 3 ≤ sizeLine; decide, fun l nl => k l _ (s2.free nl) (same_new' s2 nl) upd_same⟩
        · refine .inr ⟨z1, rfl, m1, ?_⟩
          rcases bad with ⟨rfl, rfl, bad⟩ | ⟨z2, rfl, m2, bad⟩
          · refine .inl ⟨bad, fun d' H2 nd' ed s2 => ⟨false, W9.xUA, (fun z => nomatch z), fun _ => ⟨true, U.te, fun _ a na => ?_, fun z => nomatch z⟩⟩⟩
            refine ⟨_, rfl, rfl, rfl, d', _, _, rfl, ed, rfl, _, tx, rfl, sh _ s2, ?_⟩
            exact ⟨_, rfl, .ty "LookupError", .type "LookupError", true, d', _, rfl, rfl, rfl, ed, fun _ z => z, W9.kL, by show 3 ≤ sizeLine; decide, fun l nl => k l _ (s2.free nl) (same_new' s2 nl) upd_same⟩
          · refine .inr ⟨z2, rfl, m2, ?_⟩
            rcases bad with ⟨rfl, rfl, bad⟩ | ⟨i, rfl, i0, iL, rfl, rfl, n6⟩
            · refine .inl ⟨bad, fun d' H2 nd' ed s2 => ⟨false, W9.xMA, (fun z => nomatch z), fun _ => ⟨false, W9.xMU, (fun z => nomatch z), fun _ => ⟨true, M4.te, fun _ a na => ?_, fun z => nomatch z⟩⟩⟩⟩
              refine ⟨_, rfl, rfl, rfl, d', _, _, rfl, ed, rfl, _, tx, rfl, sh _ s2, ?_⟩
              exact ⟨_, rfl, .ref CG, .ref CG, true, d', _, rfl, rfl, rfl, ed, fun _ z => z, W9.kMG, true, rfl, iteT ⟨_, rfl, .ref CA, .ref CA, false, d', _, rfl, rfl, rfl, ed, fun _ z => z, W9.kMA, false, rfl, by show 3 ≤ sizeLine; decide, fun l nl => k l _ (s2.free nl) (same_new' s2 nl) upd_same⟩⟩
            · refine .inr ⟨i, rfl, i0, iL, .inl ⟨n6, fun d' H2 nd' ed s2 => ⟨false, W9.xOA, (fun z => nomatch z), fun _ => ⟨false, W9.xOU, (fun z => nomatch z), fun _ => ⟨false, W9.xOM, (fun z => nomatch z), fun _ => ⟨true, O.te, fun _ a na => ?_, fun z => nomatch z⟩⟩⟩⟩⟩⟩
              refine ⟨_, rfl, rfl, rfl, d', _, _, rfl, ed, rfl, _, tx, rfl, sh _ s2, ?_⟩
              exact ⟨_, rfl, .ty "OverflowError", .type "OverflowError", true, d', _, rfl, rfl, rfl, ed, fun _ z => z, W9.kO, by show 3 ≤ sizeLine; decide, fun l nl => k l _ (s2.free nl) (same_new' s2 nl) upd_same⟩
    · obtain ⟨rfl, rfl, rfl, rfl, w0, m1, m2, i0, iL, n6⟩ := gd
      refine .inr ⟨z0, rfl, w0.1, w0.2, .inr ⟨z1, rfl, m1, .inr ⟨z2, rfl, m2, .inr ⟨i, rfl, i0, iL, .inr ⟨n6, fun t nt => ⟨by show 2 ≤ sizeLine; decide, fun l nl => ?_⟩⟩⟩⟩⟩⟩
      have ec := fa.cal
      have tc : t ≠ c := fun q => by rw [q, ec] at nt; cases nt
      have lc : l ≠ c := fun q => by rw [q, upd_same] at nl; cases nl
      have sl := same_new (o := .lst [.str "added", .int cs.length]) nl
      refine k l t _ ?_ nt (sl _ _ upd_same) (sl _ _ (by rw [upd_ne tc]; exact upd_same)) (fun b o e n => sl _ _ (by rw [upd_ne n, upd_ne (ne_of_none e nt)]; exact e)) upd_same
      rw [upd_ne lc] at nl
      exact (same_new nt).free nl
end

end K14

namespace K14
open PySem PySem.Spec PyProof.Rows L2 Jg
local macro_rules | `(tactic| walk_at "rd1") => `(tactic| (first
  | refine ⟨_, rfl, ?_⟩
  | refine ⟨_, _, rfl, rfl, ?_⟩
  | refine ⟨_, _, rfl, ?_⟩
  | refine ⟨rfl, ?_⟩
  | (refine ⟨show (0 : Int) < _ by omega, ?_⟩)
  | (refine ⟨Or.inl ⟨by omega, by omega⟩, ?_⟩)
  | (refine ⟨Or.inr ⟨by omega, by omega⟩, ?_⟩)
  | (refine ⟨(⟨by decide, by decide, by decide⟩ : CPow _ _), ?_⟩)
  | refine Or.inl ⟨_, rfl, ?_⟩
  | refine Or.inr ⟨_, rfl, ?_⟩
  | fail "rd"))
local macro_rules | `(tactic| walk_at "rd") => `(tactic| repeat' walk_at "rd1")


/-! what the law expects -/
/-! ### how small data is shown -/
theorem textFrom_le {M : Nat} : ∀ (ts : List Str) (k : Nat) (acc : Str), (∀ t ∈ ts, t.length ≤ M) → (textFrom k acc ts).length ≤ acc.length + ts.length * (M + 2)
  | [], k, acc, _ => by show acc.length ≤ _; omega
  | t :: r, k, acc, h => by
    have ih := textFrom_le r (k + 1) (acc ++ (if k > 0 then ", " else "" : String) ++ t) fun u hu => h u (List.mem_cons_of_mem _ hu)
    have ht := h t List.mem_cons_self
    have e : (acc ++ (if k > 0 then ", " else "" : String) ++ t).length ≤ acc.length + 2 + t.length := by
      rw [Str.length_append, Str.length_append]
      have z : (Str.ofString (if k > 0 then ", " else "" : String)).length ≤ 2 := by split <;> decide
      omega
    show (textFrom (k + 1) (acc ++ (if k > 0 then ", " else "" : String) ++ t) r).length ≤ _
    rw [List.length_cons, Nat.add_mul]
    omega
theorem big_log {i : Int} (h : i.natAbs < 10 ^ 61) : i.natAbs.log2 < 1920 := Nat.lt_of_lt_of_le (PySem.Flt.log2_lt_of (k := 300) (by decide) (Nat.lt_of_lt_of_le h (by decide +kernel))) (by decide)
theorem big_txt {i : Int} (h : i.natAbs < 10 ^ 61) : (PyData.int i).shown.length ≤ 70 := by
  have z := int_text_length_le10 (k := 61) (by decide) h
  show (Str.ofString (toString i)).length ≤ 70
  rw [PySem.ofString_length]
  omega
inductive Sm : V → PyData → Prop
  | non : Sm .non .none
  | int (i : Int) (h : i.natAbs < 10 ^ 61) : Sm (.int i) (.int i)
  | str (z : Str) (h : Wd z) : Sm (.str z) (.str z)
inductive SmAll : List V → List PyData → Prop
  | nil : SmAll [] []
  | cons {v d vs ds} : Sm v d → SmAll vs ds → SmAll (v :: vs) (d :: ds)
theorem Sm.dp {K : PySem.W.Frag} {H : Hp} {v : V} {d : PyData} (h : Sm v d) : Dp K H v d := by
  cases h with
  | non => exact .non
  | int i h => exact .int i
  | str z h => exact .str z
theorem Sm.len {v : V} {d : PyData} (h : Sm v d) : d.shown.length ≤ 90 := by
  cases h with
  | non => decide +kernel
  | int i h => exact Nat.le_trans (big_txt h) (by decide)
  | str z h =>
    have e := StrLaws.reprText_len z fun c hc => Nat.lt_of_le_of_lt (h.1 c hc).2 (by decide)
    have e2 := h.2.2
    show (reprText z).length ≤ 90
    omega
theorem Sm.sh {v : V} {d : PyData} (h : Sm v d) : d.showable = true ∧ d.depth = 0 := by
  cases h with
  | non => exact ⟨by simp [PyData.showable], by simp [PyData.depth]⟩
  | int i h => exact ⟨by simp [PyData.showable, big_log h], by simp [PyData.depth]⟩
  | str z h => exact ⟨by simp [PyData.showable], by simp [PyData.depth]⟩
theorem SmAll.dp {K : PySem.W.Frag} {H : Hp} : ∀ {vs : List V} {ds : List PyData}, SmAll vs ds → DpAll K H vs ds
  | _, _, .nil => .nil
  | _, _, .cons a b => .cons a.dp b.dp
theorem SmAll.sh : ∀ {vs : List V} {ds : List PyData}, SmAll vs ds → PyData.showableAll ds = true ∧ PyData.depthAll ds = 0
  | _, _, .nil => ⟨by simp [PyData.showableAll], by simp [PyData.depthAll]⟩
  | _, _, .cons a b => ⟨by simp [PyData.showableAll, a.sh.1, b.sh.1], by simp [PyData.depthAll, a.sh.2, b.sh.2]⟩
theorem SmAll.all : ∀ {vs : List V} {ds : List PyData}, SmAll vs ds → (∀ t ∈ PyData.shownAll ds, t.length ≤ 90) ∧ (PyData.shownAll ds).length = vs.length
  | _, _, .nil => ⟨(fun t h => by simp [PyData.shownAll] at h), by simp [PyData.shownAll]⟩
  | _, _, .cons a b => ⟨(fun t h => by
      simp only [PyData.shownAll, List.mem_cons] at h
      exact h.elim (fun e => e ▸ a.len) (b.all.1 t)), by simp [PyData.shownAll, b.all.2]⟩
theorem SmAll.shw {K : PySem.W.Frag} {H : Hp} {a : Addr} {vs : List V} {ds : List PyData} (h : SmAll vs ds) (n : vs.length ≤ 6) (hs : SqL K H a vs) : Shw K H (.ref a) (PyData.list ds).shown := by
  refine .dat (.lst hs h.dp) ?_ ?_ ?_
  · simp [PyData.showable, h.sh.1]
  · simp [PyData.depth, h.sh.2]
  · show (textFrom 0 "[" (PyData.shownAll ds) ++ "]").length ≤ sizeLine
    rw [Str.length_append]
    have z := textFrom_le (M := 90) (PyData.shownAll ds) 0 "[" h.all.1
    have z1 : (Str.ofString "[").length = 1 := by decide
    have z2 : (Str.ofString "]").length = 1 := by decide
    rw [h.all.2] at z
    rw [sizeLine_eq]
    have z3 : vs.length * 92 ≤ 6 * 92 := Nat.mul_le_mul_right _ n
    omega
def aD : Option Int → PyData
  | none => .none
  | some i => .int i
def sD : Option Str → PyData
  | none => .none
  | some z => .str z
theorem sm_L {i : Int} (h0 : 0 ≤ i) (h1 : i ≤ L) : i.natAbs < 10 ^ 61 := by
  have hL := L_eq
  have e : (10 : Nat) ^ 61 = 10000000000000000000000000000000000000000000000000000000000000 := by decide +kernel
  rw [e]; omega
theorem sm_g {g : Int} (h : 1 ≤ g ∧ g ≤ L) : Sm (.int g) (.int g) := .int g (sm_L (by omega) h.2)
theorem sm_a {a : Option Int} (h : aOk a) : Sm (oV a) (aD a) := by
  cases a with
  | none => exact .non
  | some i => exact .int i (sm_L (h i rfl).1 (h i rfl).2)
theorem sm_s {s : Option Str} (h : ∀ z, s = some z → Wd z) : Sm (sV s) (sD s) := by
  cases s with
  | none => exact .non
  | some z => exact .str z (h z rfl)
theorem shw_row {K : PySem.W.Frag} {H : Hp} {a : Addr} {r : Kd} (ok : KOk r) (kw : KW r) (h : SqL K H a (rowV r)) : Shw K H (.ref a) (PyData.list [.int r.g, aD r.a, sD r.s]).shown :=
  SmAll.shw (.cons (sm_g ok.g) (.cons (sm_a ok.a) (.cons (sm_s kw) .nil))) (by show 3 ≤ 6; decide) h

/-- how it is shown -/
def ShwE (K : PySem.W.Frag) (H : Hp) (y : V) (tx : Str) : Prop := PyData.strOk tx = true ∧ ∀ H', Same H H' → Shw K H' y tx
theorem shw_words {K : PySem.W.Frag} {H : Hp} {a : Addr} {zs : List Str} (h : ∀ z ∈ zs, Wd z) (n : zs.length ≤ 6) (hs : SqL K H a (zs.map V.str)) : Shw K H (.ref a) (PyData.list (zs.map .str)).shown := by
  have q : ∀ zs : List Str, (∀ z ∈ zs, Wd z) → SmAll (zs.map V.str) (zs.map .str) := by
    intro zs
    induction zs with
    | nil => intro _; exact .nil
    | cons z zs ih => intro h; exact .cons (.str z (h z List.mem_cons_self)) (ih fun y hy => h y (List.mem_cons_of_mem _ hy))
  exact SmAll.shw (q zs h) (by rw [List.length_map]; exact n) hs
theorem okW_az {z : Str} (h : AZ z) : okW z := by
  show (z.cps.all fun x => decide (x < 0x110000)) = true
  exact az_all h fun c _ hc => decide_eq_true (by omega)
theorem strOk_append (a b : Str) : PyData.strOk (a ++ b) = (PyData.strOk a && PyData.strOk b) := by
  unfold PyData.strOk
  rw [Str.cps_append, Array.all_append]
theorem repr_az : ∀ c, c < 123 → 97 ≤ c → Builtin.Str.reprChar 39 c = [c] ∧ Builtin.Str.reprChar 34 c = [c] := by decide +kernel
theorem fold_ok (q : Nat) : ∀ (l : List Nat) (acc : Array Nat), acc.all (fun c => decide (c < 0x110000)) = true → (∀ c ∈ l, Builtin.Str.reprChar q c = [c] ∧ c < 0x110000) → (l.foldl (fun out c => out ++ (Builtin.Str.reprChar q c).toArray) acc).all (fun c => decide (c < 0x110000)) = true
  | [], acc, h, _ => h
  | c :: r, acc, h, hc => by
    obtain ⟨e, lt⟩ := hc c (List.mem_cons_self ..)
    refine fold_ok q r _ ?_ fun x hx => hc x (List.mem_cons_of_mem _ hx)
    show ((acc ++ (Builtin.Str.reprChar q c).toArray).all fun c => decide (c < 0x110000)) = true
    rw [e, Array.all_append, h]
    simp [lt]
theorem repr_ok {z : Str} (h : AZ z) : PyData.strOk (reprText z) = true := by
  have q : reprQuote z = 39 ∨ reprQuote z = 34 := by
    unfold reprQuote
    split
    · exact .inr rfl
    · exact .inl rfl
  unfold reprText PyData.strOk
  rw [← Array.foldl_toList, Array.all_push, fold_ok (reprQuote z) z.cps.toList #[reprQuote z] (by rcases q with q | q <;> rw [q] <;> simp) fun c hc => ?_]
  · rcases q with q | q <;> rw [q] <;> decide
  · have a := h c hc
    have r := repr_az c (by omega) a.1
    refine ⟨?_, by omega⟩
    rcases q with q | q <;> rw [q]
    · exact r.1
    · exact r.2
theorem AZ.append {a b : Str} (h1 : AZ a) (h2 : AZ b) : AZ (a ++ b) := fun c hc => by
  rw [Str.cps_append, Array.toList_append, List.mem_append] at hc
  rcases hc with hc | hc
  · exact h1 c hc
  · exact h2 c hc
theorem one_ok {z : Str} (h : AZ z) : PyData.strOk (PyData.list [.str z]).shown = true := by
  have e : (PyData.list [.str z]).shown = ("[" : Str) ++ (if 0 > 0 then ", " else "" : String) ++ reprText z ++ ("]" : Str) := by
    simp only [PyData.shown, PyData.shownAll]; rfl
  rw [e, strOk_append, strOk_append, strOk_append, repr_ok h]
  decide +kernel

theorem tup_ok {z : Str} (h : AZ z) : PyData.strOk (PyData.tuple [.str z]).shown = true := by
  have e : (PyData.tuple [.str z]).shown = ("(" : Str) ++ (if 0 > 0 then ", " else "" : String) ++ reprText z ++ (",)" : Str) := by
    simp only [PyData.shown, PyData.shownAll]; rfl
  rw [e, strOk_append, strOk_append, strOk_append, repr_ok h]
  decide +kernel

section
variable {K : PySem.W.Frag} {H : Hp}
theorem ty_lst {a : Addr} {xs : List V} (h : H a = some (.lst xs)) : ∀ H', Same H H' → TyX K H' (.ref a) (.type "list") := fun H' s => .base (.lst (s _ _ h))
theorem ty_tup {a : Addr} {xs : List V} (h : H a = some (.tup xs)) : ∀ H', Same H H' → TyX K H' (.ref a) (.type "tuple") := fun H' s => .base (.tup (s _ _ h))
theorem ty_dk {a : Addr} (h : H a = some (.dK [])) : ∀ H', Same H H' → TyX K H' (.ref a) (.type "dict") := fun H' s => .base (.dK (s _ _ h))
theorem sw_az {z : Str} (h : AZ z) (l : z.length ≤ 1000) : ShwE K H (.str z) (reprText z) := ⟨repr_ok h, fun _ _ => .str z (by
  have e := StrLaws.reprText_len z fun c hc => Nat.lt_of_le_of_lt (h c hc).2 (by decide)
  rw [sizeLine_eq]; omega)⟩
theorem sw_lst {a : Addr} {z : Str} (w : Wd z) (h : H a = some (.lst [.str z])) : ShwE K H (.ref a) (PyData.list [.str z]).shown := ⟨one_ok w.1, fun H' s => shw_words (zs := [z]) (fun y hy => by rw [List.mem_singleton.mp hy]; exact w) (by show 1 ≤ 6; decide) (SqL.of (s _ _ h))⟩
theorem sw_tup {a : Addr} {z : Str} (w : Wd z) (h : H a = some (.tup [.str z])) : ShwE K H (.ref a) (PyData.tuple [.str z]).shown := ⟨tup_ok w.1, fun H' s => by
  have sm : SmAll [V.str z] [.str z] := .cons (.str z w) .nil
  refine .dat (.tup (SqT.of (s _ _ h)) sm.dp) ?_ ?_ ?_
  · simp [PyData.showable, sm.sh.1]
  · simp [PyData.depth, sm.sh.2]
  · show (textFrom 0 "(" (PyData.shownAll [.str z]) ++ ",)").length ≤ sizeLine
    rw [Str.length_append]
    have q := textFrom_le (M := 90) (PyData.shownAll [.str z]) 0 "(" sm.all.1
    have z1 : (Str.ofString "(").length = 1 := by decide
    have z2 : (Str.ofString ",)").length = 2 := by decide
    rw [sm.all.2] at q
    have z3 : [V.str z].length = 1 := rfl
    rw [sizeLine_eq]
    omega⟩
end

def fl (os : List Int) (k : Int) : Bool := inV (.int k) (os.map V.int)
theorem flat_ints (os : List Int) : (os.map V.int).all flatV = true := by
  induction os with
  | nil => rfl
  | cons i os ih => exact ih
/-- shown shortly -/
def ShT (K : PySem.W.Frag) (H : Hp) (y : V) : Prop := ∃ tx : Str, tx.length ≤ 200 ∧ ShwE K H y tx
theorem ShT.keep {K : PySem.W.Frag} {H H' : Hp} {y : V} (h : ShT K H y) (s : Same H H') : ShT K H' y := let ⟨tx, a, b, q⟩ := h; ⟨tx, a, b, fun H2 s2 => q H2 (s.trans s2)⟩
theorem BadW.noKind {K : PySem.W.Frag} {H : Hp} {ks : Ks} {y : V} (h : BadW K H y) : NoKind K H ks y := by
  rcases h with ⟨z, a, b, c⟩ | h
  · exact .inl ⟨z, a, b, fun w => by rw [c] at w; cases w⟩
  · exact .inr h
/-- a drawn row, os: where it is odd -/
structure RowO (K : PySem.W.Frag) (H : Hp) (ns : List Str) (y0 y1 y2 y3 : V) (os : List Int) : Prop where
  b0 : fl os 0 = true → BadW K H y0 ∧ ShT K H y0
  g0 : fl os 0 = false → ∃ z, y0 = .str z ∧ Wd z
  b1 : fl os 1 = true → BadW K H y1 ∧ ShT K H y1
  g1 : fl os 1 = false → ∃ z, y1 = .str z ∧ z ∈ ns
  b2 : fl os 2 = true → BadW K H y2 ∧ ShT K H y2
  g2 : fl os 2 = false → ∃ z, y2 = .str z ∧ z ∈ ns
  b3 : fl os 3 = true → BadR K H 0 L y3 ∧ ShT K H y3
  g3 : fl os 3 = false → ∃ i : Int, y3 = .int i ∧ 0 ≤ i ∧ i ≤ L
theorem RowO.keep {K : PySem.W.Frag} {H H' : Hp} {ns : List Str} {y0 y1 y2 y3 : V} {os : List Int} (h : RowO K H ns y0 y1 y2 y3 os) (s : Same H H') : RowO K H' ns y0 y1 y2 y3 os :=
  ⟨fun e => ⟨(h.b0 e).1.keep s, (h.b0 e).2.keep s⟩, h.g0, fun e => ⟨(h.b1 e).1.keep s, (h.b1 e).2.keep s⟩, h.g1, fun e => ⟨(h.b2 e).1.keep s, (h.b2 e).2.keep s⟩, h.g2, fun e => ⟨(h.b3 e).1.keep s, (h.b3 e).2.keep s⟩, h.g3⟩
def spWrong (K : PySem.W.Frag) : Sp := fun vs H Q _ => ∃ (ks : Ks) (lr lo : Addr) (y0 y1 y2 y3 nm : V) (os : List Int) (n : Nat), vs = [.ref lr, .ref lo, nm, .int n] ∧ H lr = some (.lst [y0, y1, y2, y3]) ∧ H lo = some (.lst (os.map V.int)) ∧ RowO K H (ks.map (·.1)) y0 y1 y2 y3 os ∧ n ≤ 6 ∧
  ∀ oc l H', CaseC K H ks n y0 y1 y2 y3 oc → H l = none → Same H H' → H' l = some (.lst (DueL n oc)) → Q (.ref l) H'
section
variable {P : Program} {w : World} {K : PySem.W.Frag} {mg : Str → Option Value} {base : Heap} {C : Addr}
abbrev s_law_wrong : Stmt := top 30
theorem sc_law_wrong : FnScope ["row", "odds", "names", "count", "at"] ["row", "odds", "names", "count"] (defScope s_law_wrong) := ⟨rfl, rfl, rfl, by decide +kernel, rfl, by decide +kernel, by decide +kernel⟩
theorem ok_wrong (D : DefK K mg "_law_wrong" s_law_wrong) (T : Txt K mg C) : CalG P w K mg base CX0 1 "_law_wrong" (spWrong K) := by
  refine D.calG sc_law_wrong (fun _ _ _ _ _ _ us hl => match us, hl with | [_, _, _, _], _ => rfl) (fun vs H Q E h => ?_) fun f0 cdv A outer s H vs Q E g hr h => ?_
  · obtain ⟨ks, lr, lo, y0, y1, y2, y3, nm, os, n, rfl, _⟩ := h; rfl
  · obtain ⟨ks, lr, lo, y0, y1, y2, y3, nm, os, n, rfl, er, eo, ro, n6, kk⟩ := h
    have kb : ∀ kd tx l H', BadC K H ks n y0 y1 y2 y3 kd tx → TxOk kd tx → H l = none → Same H H' → H' l = some (.lst [.str kd, .str tx, .bl true]) → Q (.ref l) H' := fun kd tx l H' b t nl s el => kk (.inl (kd, tx)) l H' ⟨b, t⟩ nl s el
    have kg : ∀ z0 z1 z2 i l H', GoodC ks n y0 y1 y2 y3 z0 z1 z2 i → Wd z0 → H l = none → Same H H' → H' l = some (.lst [.str "added", .int n]) → Q (.ref l) H' := fun z0 z1 z2 i l H' gd wz nl s el => kk (.inr ⟨z0, z1, z2, i⟩) l H' ⟨gd, wz⟩ nl s el
    clear kk
    have hu : (A.deeper (envOfC _ _ _ f0 cdv)).units + 64 < cLine := hr.units
    refine ⟨_, (pss_cons (ps_if (pt_cmpR (r := rIn K false) op_in_seq pe_int (pv 1) rfl) (pss_one (ps_ret (pe_lst (pa_cons pe_str (pa_cons (pe_callB (call_shw g hu) (by rfl) T.b_repr (by decide +kernel) (pa_cons (pe_ix (r := rIxL K) ix_list (pv 0) pe_int (fun _ _ => rfl)) pa_nil)) (pa_cons pe_bl pa_nil)))))) pss_nil)
      (pss_cons (ps_for PassesOwn.never rfl (pi_list (pe_lst (pa_cons pe_int (pa_cons pe_int pa_nil)))) (pg_name (i := 4) sc_law_wrong.nd rfl (Or.inl rfl)) (pss_one (ps_if (pt_cmpR (r := rIn K false) op_in_seq (pv 4) (pv 1) rfl) (pss_one (ps_ret (pe_lst (pa_cons pe_str (pa_cons (pe_callB (call_shw g hu) (by rfl) T.b_repr (by decide +kernel) (pa_cons (pe_ix (r := rIxL K) ix_list (pv 0) (pv 4) (fun _ _ => rfl)) pa_nil)) (pa_cons pe_bl pa_nil)))))) pss_nil)))
      (pss_cons (ps_if (pt_cmpR (r := rIn K false) op_in_seq pe_int (pv 1) rfl) (pss_one (ps_ret (pe_lst (pa_cons pe_str (pa_cons (pe_callB (call_shw g hu) (by rfl) T.b_repr (by decide +kernel) (pa_cons (pe_ix (r := rIxL K) ix_list (pv 0) pe_int (fun _ _ => rfl)) pa_nil)) (pa_cons pe_bl pa_nil)))))) pss_nil)
      (pss_one (ps_ret (pe_ifExp (pt_cmpR op_eq (pv 3) pe_int (nomark _)) (pe_lst (pa_cons pe_str (pa_cons pe_str (pa_cons pe_bl pa_nil)))) (pe_lst (pa_cons pe_str (pa_cons (pv 3) pa_nil))))))))), ?_⟩
    have z3 : 3 ≤ sizeLine := by decide
    have q0 : SqL K H lr [y0, y1, y2, y3] := SqL.of er
    refine ⟨_, rfl, lo, _, rfl, .inl (SqL.of eo), rfl, flat_ints os, _, rfl, ?_⟩
    have okk : PyData.strOk "role" = true ∧ PyData.strOk "name" = true ∧ PyData.strOk "life" = true ∧ PyData.strOk "limit" = true ∧ PyData.strOk "6" = true := by decide +kernel
    have kl : ("role" : Str).length ≤ 200 ∧ ("name" : Str).length ≤ 200 ∧ ("life" : Str).length ≤ 200 ∧ ("limit" : Str).length ≤ 200 ∧ ("6" : Str).length ≤ 200 := by decide +kernel
    change (if fl os 0 = true then _ else _)
    cases f0 : fl os 0 with
    | true =>
      obtain ⟨bad, tx, tl, ot, sh⟩ := ro.b0 f0
      exact iteT ⟨_, rfl, lr, _, 0, y0, rfl, rfl, q0, rfl, y0, tx, rfl, sh _ (.refl _), z3, fun l nl => kb "role" tx l _ ⟨y0, sh, .inl ⟨rfl, rfl, bad⟩⟩ ⟨okk.1, ot, kl.1, tl⟩ nl (same_new nl) upd_same⟩
    | false =>
    obtain ⟨w0, rfl, ww0⟩ := ro.g0 f0
    have wo := ww0.ok
    refine iteF ⟨by show 2 ≤ sizeLine; decide, fun la nla => ⟨la, rfl, ⟨_, SqL.of upd_same⟩, ?_⟩⟩
    have sA : Same H (upd H la (.lst [.int 1, .int 2])) := same_new nla
    have ela : upd H la (.lst [.int 1, .int 2]) la = some (.lst [.int 1, .int 2]) := upd_same
    change ∃ W : Nat → Nat → L2.St → Hp → Prop, _
    generalize upd H la _ = HA at *
    refine for_list (K := K) (a := la) (xs := [.int 1, .int 2]) (fun i σ H' => ∃ v4 : Option V, σ = [some (.ref lr), some (.ref lo), some nm, some (.int n), v4] ∧ Same HA H' ∧ (1 ≤ i → fl os 1 = false) ∧ (2 ≤ i → fl os 2 = false)) ⟨_, rfl, .refl _, fun h => absurd h (by omega), fun h => absurd h (by omega)⟩ ?_ ?_ ?_
    · rintro i σ H' _ ⟨v4, rfl, s2, _⟩
      exact s2.seq (SqL.of ela)
    · rintro i x σ H' ex ⟨v4, rfl, s2, h1, h2⟩
      have sH := sA.trans s2
      have eo2 := sH _ _ eo
      have q2 : SqL K H' lr [.str w0, y1, y2, y3] := SqL.of (sH _ _ er)
      match i, ex with
      | 0, ex =>
        cases ex
        refine ⟨_, rfl, _, rfl, lo, _, rfl, .inl (SqL.of eo2), rfl, flat_ints os, _, rfl, ?_⟩
        change (if fl os 1 = true then _ else _)
        cases f1 : fl os 1 with
        | true =>
          obtain ⟨bad, tx, tl, ot, sh⟩ := ro.b1 f1
          exact iteT ⟨_, rfl, _, rfl, lr, _, 1, y1, rfl, rfl, q2, rfl, y1, tx, rfl, sh _ sH, z3, fun l nl => kb "name" tx l _ ⟨y1, sh, .inr ⟨w0, rfl, wo.1, wo.2, .inl ⟨rfl, rfl, bad.noKind⟩⟩⟩ ⟨okk.2.1, ot, kl.2.1, tl⟩ (sH.free nl) (sH.trans (same_new nl)) upd_same⟩
        | false => exact iteF ⟨_, rfl, s2, fun _ => rfl, fun h => absurd h (by omega)⟩
      | 1, ex =>
        cases ex
        have f1 := h1 (Nat.le_refl _)
        obtain ⟨w1, rfl, m1⟩ := ro.g1 f1
        refine ⟨_, rfl, _, rfl, lo, _, rfl, .inl (SqL.of eo2), rfl, flat_ints os, _, rfl, ?_⟩
        change (if fl os 2 = true then _ else _)
        cases f2 : fl os 2 with
        | true =>
          obtain ⟨bad, tx, tl, ot, sh⟩ := ro.b2 f2
          exact iteT ⟨_, rfl, _, rfl, lr, _, 2, y2, rfl, rfl, q2, rfl, y2, tx, rfl, sh _ sH, z3, fun l nl => kb "name" tx l _ ⟨y2, sh, .inr ⟨w0, rfl, wo.1, wo.2, .inr ⟨w1, rfl, m1, .inl ⟨rfl, rfl, bad.noKind⟩⟩⟩⟩ ⟨okk.2.1, ot, kl.2.1, tl⟩ (sH.free nl) (sH.trans (same_new nl)) upd_same⟩
        | false => exact iteF ⟨_, rfl, s2, fun _ => f1, fun _ => rfl⟩
      | n + 2, ex => exact absurd ex (by simp)
    · rintro σ H' ⟨v4, rfl, s2, h1, h2⟩
      have f1 := h1 (by show 1 ≤ 2; decide)
      have f2 := h2 (Nat.le_refl _)
      obtain ⟨w1, rfl, m1⟩ := ro.g1 f1
      obtain ⟨w2, rfl, m2⟩ := ro.g2 f2
      have sH := sA.trans s2
      have q2 : SqL K H' lr [.str w0, .str w1, .str w2, y3] := SqL.of (sH _ _ er)
      refine ⟨_, rfl, lo, _, rfl, .inl (SqL.of (sH _ _ eo)), rfl, flat_ints os, _, rfl, ?_⟩
      change (if fl os 3 = true then _ else _)
      cases f3 : fl os 3 with
      | true =>
        obtain ⟨bad, tx, tl, ot, sh⟩ := ro.b3 f3
        exact iteT ⟨_, rfl, lr, _, 3, y3, rfl, rfl, q2, rfl, y3, tx, rfl, sh _ sH, z3, fun l nl => kb "life" tx l _ ⟨y3, sh, .inr ⟨w0, rfl, wo.1, wo.2, .inr ⟨w1, rfl, m1, .inr ⟨w2, rfl, m2, .inl ⟨rfl, rfl, bad⟩⟩⟩⟩⟩ ⟨okk.2.2.1, ot, kl.2.2.1, tl⟩ (sH.free nl) (sH.trans (same_new nl)) upd_same⟩
      | false =>
        obtain ⟨i, rfl, i0, iL⟩ := ro.g3 f3
        refine iteF ⟨_, rfl, rfl, _, rfl, ?_⟩
        by_cases c : n = 6
        · exact iteTe (show decide (V.int (n : Int) = V.int 6) = true from decide_eq_true (by rw [c]; rfl)) ⟨z3, fun l nl => kb "limit" "6" l _ ⟨.int 6, (fun H' _ => by
            have e : ("6" : Str) = (toString (6 : Int) : Str) := by decide +kernel
            rw [e]; exact .int 6 (by decide +kernel)), .inr ⟨w0, rfl, wo.1, wo.2, .inr ⟨w1, rfl, m1, .inr ⟨w2, rfl, m2, .inr ⟨i, rfl, i0, iL, rfl, rfl, c⟩⟩⟩⟩⟩ ⟨okk.2.2.2.1, okk.2.2.2.2, kl.2.2.2.1, kl.2.2.2.2⟩ (sH.free nl) (sH.trans (same_new nl)) upd_same⟩
        · exact iteFe (show decide (V.int (n : Int) = V.int 6) = false from decide_eq_false fun q => by injection q with q; omega) ⟨_, rfl, by show 2 ≤ sizeLine; decide, fun l nl => kg w0 w1 w2 i l _ ⟨rfl, rfl, rfl, rfl, wo, m1, m2, i0, iL, by omega⟩ ww0 (sH.free nl) (sH.trans (same_new nl)) upd_same⟩
end

end K14

namespace K14
open PySem PySem.Spec PyProof.Rows L2 Jg
local macro_rules | `(tactic| walk_at "rd1") => `(tactic| (first
  | refine ⟨_, rfl, ?_⟩
  | refine ⟨_, _, rfl, rfl, ?_⟩
  | refine ⟨_, _, rfl, ?_⟩
  | refine ⟨rfl, ?_⟩
  | (refine ⟨show (0 : Int) < _ by omega, ?_⟩)
  | (refine ⟨Or.inl ⟨by omega, by omega⟩, ?_⟩)
  | (refine ⟨Or.inr ⟨by omega, by omega⟩, ?_⟩)
  | (refine ⟨(⟨by decide, by decide, by decide⟩ : CPow _ _), ?_⟩)
  | refine Or.inl ⟨_, rfl, ?_⟩
  | refine Or.inr ⟨_, rfl, ?_⟩
  | fail "rd"))
local macro_rules | `(tactic| walk_at "rd") => `(tactic| repeat' walk_at "rd1")


/-! what is drawn for a call -/
def hid (M : List Addr) (H : Hp) : Hp := fun q => if q ∈ M then none else H q
theorem hid_in {M : List Addr} {H : Hp} {q : Addr} {o : HO} (h : H q = some o) (n : q ∉ M) : hid M H q = some o := by unfold hid; rw [if_neg n]; exact h
theorem hid_get {M : List Addr} {H : Hp} {q : Addr} {o : HO} (h : hid M H q = some o) : H q = some o ∧ q ∉ M := by
  unfold hid at h
  by_cases c : q ∈ M
  · rw [if_pos c] at h; cases h
  · rw [if_neg c] at h; exact ⟨h, c⟩
theorem hid_same {M : List Addr} {H : Hp} : Same (hid M H) H := fun q o e => (hid_get e).1
theorem hid_step {M : List Addr} {H H' : Hp} (s : ∀ q o, H q = some o → q ∉ M → H' q = some o) : Same (hid M H) (hid M H') := fun q o e => hid_in (s q o (hid_get e).1 (hid_get e).2) (hid_get e).2
theorem hid_b {p : Addr} {H H' : Hp} (s : SameB p H H') : Same (hid [p] H) (hid [p] H') := hid_step fun q o e n => s q o e fun z => n (List.mem_singleton.mpr z)
section
variable {K : PySem.W.Frag} {H H' : Hp} {p l : Addr}
theorem choose_of {xs : List V} {Q : VK} (st : StA H p) (e : H l = some (.lst xs)) (np : l ≠ p) (h0 : 0 < xs.length) (h1 : xs.length < 1000) (k : ∀ v ∈ xs, ∀ H', SameB p H H' → StA H' p → Q v H') : spChoose K [.ref p, .ref l] H Q E0 := by
  obtain ⟨a, b, ep, ha⟩ := st
  exact ⟨p, _, a, b, rfl, ep, ha, .inl ⟨l, xs, rfl, SqL.of e, np, h0, h1, fun i v a' b' hv ha' => k v (List.mem_of_getElem? hv) _ (SameB.mut (SameB.refl p H)) ⟨a', b', upd_same, ha'⟩⟩⟩
theorem draw_of {n : Int} {Q : VK} (st : StA H p) (h0 : 0 < n) (h1 : n.natAbs < 2 ^ 300) (k : ∀ v, 0 ≤ v → v < n → ∀ H', SameB p H H' → StA H' p → Q (.int v) H') : spDraw [.ref p, .int n] H Q E0 := by
  obtain ⟨a, b, ep, ha⟩ := st
  exact ⟨p, a, b, n, rfl, ep, ha, h0, h1, fun v a' b' v0 v1 ha' => k v v0 v1 _ (SameB.mut (SameB.refl p H)) ⟨a', b', upd_same, ha'⟩⟩
theorem StA.new {o : HO} (st : StA H p) (n : H l = none) : StA (upd H l o) p := by
  obtain ⟨a, b, e, q⟩ := st
  exact ⟨a, b, (same_new n) _ _ e, q⟩
end
theorem wd_a : Wd "a" := ⟨fun c hc => (by
  have e : ("a" : Str).cps.toList = [97] := by decide +kernel
  rw [e] at hc
  have := List.mem_singleton.mp hc
  subst this; decide), by decide +kernel⟩
abbrev odc (tt tl td : Addr) : List V := [.str "", .str "A", .str "a b", .str "abcdefghi", .str "a1", .int 5, .non, .bl true, .ref tt, .ref tl, .ref td]
def OddC (K : PySem.W.Frag) (H : Hp) (y : V) : Prop := BadW K H y ∧ ShT K H y
theorem OddC.keep {K : PySem.W.Frag} {H H' : Hp} {y : V} (h : OddC K H y) (s : Same H H') : OddC K H' y := ⟨h.1.keep s, h.2.keep s⟩
section
variable {K : PySem.W.Frag} {H : Hp}
theorem odc_str {z : Str} (h1 : z.length ≤ 90) (h2 : wordB z = false) (h3 : (reprText z).length ≤ 200) (h4 : PyData.strOk (reprText z) = true) : OddC K H (.str z) :=
  ⟨.inl ⟨z, rfl, Nat.le_trans h1 (by decide), h2⟩, _, h3, h4, fun _ _ => .str _ (Nat.le_trans h3 (by decide))⟩
theorem odc_oth {y : V} {t : Value} (ty : ∀ H', Same H H' → TyX K H' y t) (kt : kit K t "str" false) (sh : ShT K H y) : OddC K H y := ⟨.inr ⟨t, ty, kt⟩, sh⟩
theorem sh_non : ShT K H .non := ⟨_, (by decide +kernel), (by decide +kernel), fun _ _ => .non⟩
theorem sh_bl (b : Bool) : ShT K H (.bl b) := by cases b <;> exact ⟨_, (by decide +kernel), (by decide +kernel), fun _ _ => .bl _⟩
theorem sh_five : ShT K H (.int 5) := ⟨_, (by decide +kernel), (by decide +kernel), fun _ _ => .int 5 (by decide +kernel)⟩
theorem odc_odd {tt tl td : Addr} (ht : H tt = some (.tup [.str "a"])) (hl : H tl = some (.lst [.str "a"])) (hd : H td = some (.dK [])) : ∀ y ∈ odc tt tl td, OddC K H y := by
  intro y hy
  simp only [odc, List.mem_cons, List.not_mem_nil, or_false] at hy
  rcases hy with rfl | rfl | rfl | rfl | rfl | rfl | rfl | rfl | rfl | rfl | rfl
  · exact odc_str (by decide +kernel) (by decide +kernel) (by decide +kernel) (by decide +kernel)
  · exact odc_str (by decide +kernel) (by decide +kernel) (by decide +kernel) (by decide +kernel)
  · exact odc_str (by decide +kernel) (by decide +kernel) (by decide +kernel) (by decide +kernel)
  · exact odc_str (by decide +kernel) (by decide +kernel) (by decide +kernel) (by decide +kernel)
  · exact odc_str (by decide +kernel) (by decide +kernel) (by decide +kernel) (by decide +kernel)
  · exact odc_oth (fun _ _ => .base (.int _)) (kit_ty (by decide +kernel)) sh_five
  · exact odc_oth (fun _ _ => .base .non) (kit_ty (by decide +kernel)) sh_non
  · exact odc_oth (fun _ _ => .base (.bl _)) (kit_ty (by decide +kernel)) (sh_bl _)
  · exact odc_oth (ty_tup ht) (kit_ty (by decide +kernel)) ⟨_, by decide +kernel, sw_tup wd_a ht⟩
  · exact odc_oth (ty_lst hl) (kit_ty (by decide +kernel)) ⟨_, by decide +kernel, sw_lst wd_a hl⟩
  · exact odc_oth (ty_dk hd) (kit_ty (by decide +kernel)) ⟨_, (by decide +kernel), (by decide +kernel), fun H' s => .dnew (s _ _ hd)⟩
theorem nine_x : timesT "x" 9 = ("xxxxxxxxx" : Str) := by decide +kernel
theorem odc_nine {z : Str} (h : Wd z) : OddC K H (.str (z ++ timesT "x" 9)) := by
  rw [nine_x]
  have l9 : ("xxxxxxxxx" : Str).length = 9 := by decide +kernel
  have hl : (z ++ ("xxxxxxxxx" : Str)).length = z.length + 9 := by rw [Str.length_append, l9]
  have h2 := h.2
  have az : AZ (z ++ ("xxxxxxxxx" : Str)) := fun c hc => by
    have e : (z ++ ("xxxxxxxxx" : Str)).cps.toList = z.cps.toList ++ ("xxxxxxxxx" : Str).cps.toList := by
      show (z.cps ++ ("xxxxxxxxx" : Str).cps).toList = _
      simp
    rw [e] at hc
    rcases List.mem_append.mp hc with q | q
    · exact h.1 c q
    · have e2 : ("xxxxxxxxx" : Str).cps.toList = List.replicate 9 120 := by decide +kernel
      rw [e2] at q
      rw [(List.mem_replicate.mp q).2]; decide
  have rl := StrLaws.reprText_len (z ++ ("xxxxxxxxx" : Str)) fun c hc => Nat.lt_of_le_of_lt (az c hc).2 (by decide)
  refine ⟨.inl ⟨_, rfl, by rw [hl, sizeLine_eq]; omega, ?_⟩, _, by omega, sw_az az (by omega)⟩
  unfold wordB
  rw [decide_eq_false (by omega)]; rfl
abbrev od4 (bw : V) (z : Str) : List V := [bw, .str (z ++ timesT "x" 9), .int 5, .non]
theorem od4_odd {bw : V} {z : Str} (h : OddC K H bw) (w : Wd z) : ∀ y ∈ od4 bw z, OddC K H y := by
  intro y hy
  simp only [od4, List.mem_cons, List.not_mem_nil, or_false] at hy
  rcases hy with rfl | rfl | rfl | rfl
  · exact h
  · exact odc_nine w
  · exact odc_oth (fun _ _ => .base (.int _)) (kit_ty (by decide +kernel)) sh_five
  · exact odc_oth (fun _ _ => .base .non) (kit_ty (by decide +kernel)) sh_non
/-- odd lifetimes -/
def OddL (K : PySem.W.Frag) (H : Hp) (y : V) : Prop := BadR K H 0 L y ∧ ShT K H y
theorem noint {y : V} {t : Value} (ty : ∀ H', Same H H' → TyX K H' y t) (kt : kit K t "int" false) : NoInt K H y := ⟨t, false, false, ty, kt, (fun z => nomatch z), rfl⟩
abbrev odl (m : Int) (tl tt : Addr) : List V := [.int (-1), .int m, .non, .bl true, .str "1", .ref tl, .ref tt]
theorem sh_int {i : Int} (h1 : (toString i : String).length ≤ 200) (h2 : PyData.strOk (toString i : Str) = true) (h3 : i.natAbs.log2 < 1920) : ShT K H (.int i) := ⟨_, by rw [PySem.ofString_length]; exact h1, h2, fun _ _ => .int i h3⟩
theorem odl_odd {tl tt : Addr} (hl : H tl = some (.lst [.int 0])) (ht : H tt = some (.tup [])) : ∀ y ∈ odl (10 ^ (30 : Int).toNat + 1) tl tt, OddL K H y := by
  have hL := L_eq
  intro y hy
  simp only [odl, List.mem_cons, List.not_mem_nil, or_false] at hy
  rcases hy with rfl | rfl | rfl | rfl | rfl | rfl | rfl
  · exact ⟨.inl ⟨_, rfl, by rw [decide_eq_false (by decide)]; rfl⟩, sh_int (by decide +kernel) (by decide +kernel) (by decide +kernel)⟩
  · exact ⟨.inl ⟨_, rfl, by rw [decide_eq_false (p := _ ≤ L) (by rw [hL, p30]; decide), Bool.and_false]⟩, sh_int (by decide +kernel) (by decide +kernel) (by decide +kernel)⟩
  · exact ⟨.inr (noint (fun _ _ => .base .non) (kit_ty (by decide +kernel))), sh_non⟩
  · exact ⟨.inr ⟨_, true, true, fun _ _ => .base (.bl _), kit_ty (by decide +kernel), fun _ => kit_ty (by decide +kernel), rfl⟩, sh_bl _⟩
  · exact ⟨.inr (noint (fun _ _ => .base (.str _)) (kit_ty (by decide +kernel))), _, (by decide +kernel), (by decide +kernel), fun _ _ => .str _ (by decide +kernel)⟩
  · exact ⟨.inr (noint (ty_lst hl) (kit_ty (by decide +kernel))), (PyData.list [.int 0]).shown, by decide +kernel, by decide +kernel, fun H' s => .dat (.lst (SqL.of (s _ _ hl)) (.cons (.int 0) .nil)) (by decide +kernel) (by decide +kernel) (by decide +kernel)⟩
  · exact ⟨.inr (noint (ty_tup ht) (kit_ty (by decide +kernel))), (PyData.tuple []).shown, by decide +kernel, by decide +kernel, fun H' s => .dat (.tup (SqT.of (s _ _ ht)) .nil) (by decide +kernel) (by decide +kernel) (by decide +kernel)⟩
end
/-- as the row is drawn: its list at lr, the rest as it was, seen without p and lr -/
structure DI (H : Hp) (p lr : Addr) (W H' : Hp) (y0 y1 y2 y3 : V) : Prop where
  st : StA H' p
  sb : SameB p H H'
  er : H' lr = some (.lst [y0, y1, y2, y3])
  vw : Same W (hid [p, lr] H')
section
variable {H W H' H2 : Hp} {p lr : Addr} {y0 y1 y2 y3 : V}
theorem not2 {p lr q : Addr} (a : q ≠ p) (b : q ≠ lr) : q ∉ [p, lr] := fun m => by
  rcases List.mem_cons.mp m with e | m
  · exact a e
  · exact b (List.mem_singleton.mp m)
theorem DI.step (h : DI H p lr W H' y0 y1 y2 y3) (np : lr ≠ p) (s : SameB p H' H2) (st : StA H2 p) : DI H p lr W H2 y0 y1 y2 y3 :=
  ⟨st, h.sb.trans s, s _ _ h.er np, h.vw.trans (hid_step fun q o e n => s q o e fun z => n (by rw [z]; exact List.mem_cons_self))⟩
theorem DI.set {x0 x1 x2 x3 : V} (h : DI H p lr W H' y0 y1 y2 y3) (np : lr ≠ p) (nH : H lr = none) : DI H p lr W (upd H' lr (.lst [x0, x1, x2, x3])) x0 x1 x2 x3 := by
  obtain ⟨a, b, e, q⟩ := h.st
  refine ⟨⟨a, b, by rw [upd_ne (Ne.symm np)]; exact e, q⟩, fun q o e n => by rw [upd_ne (ne_of_none e nH)]; exact h.sb q o e n, upd_same, h.vw.trans (hid_step fun q o e n => ?_)⟩
  rw [upd_ne fun z => n (by rw [z]; exact List.mem_cons_of_mem _ (List.mem_singleton.mpr rfl))]; exact e
end
def spDrawn (K : PySem.W.Frag) : Sp := fun vs H Q _ => ∃ (p lw ln : Addr) (ws ns : List Str), vs = [.ref p, .ref lw, .ref ln] ∧ StA H p ∧ H lw = some (.lst (ws.map V.str)) ∧ lw ≠ p ∧ H ln = some (.lst (ns.map V.str)) ∧ ln ≠ p ∧ 0 < ws.length ∧ ws.length ≤ 26 ∧ (∀ z ∈ ws, Wd z) ∧ 0 < ns.length ∧ ns.length ≤ 26 ∧ (∀ z ∈ ns, Wd z) ∧
  ∀ (l lr lo : Addr) (y0 y1 y2 y3 : V) (os : List Int) (H' : Hp), H l = none → H lr = none → H lo = none → SameB p H H' → StA H' p → H' l = some (.lst [.ref lr, .ref lo]) → H' lr = some (.lst [y0, y1, y2, y3]) → H' lo = some (.lst (os.map V.int)) → RowO K (hid [p, lr] H') ns y0 y1 y2 y3 os → Q (.ref l) H'
section
variable {P : Program} {w : World} {K : PySem.W.Frag} {mg : Str → Option Value} {base : Heap} {C : Addr}
abbrev s_law_drawn_row : Stmt := top 31
theorem sc_law_drawn_row : FnScope ["stream", "words", "names", "bad_word", "keeps", "row", "odds", "at"] ["stream", "words", "names"] (defScope s_law_drawn_row) := ⟨rfl, rfl, rfl, by decide +kernel, rfl, by decide +kernel, by decide +kernel⟩
theorem ok_drawn (D : DefK K mg "_law_drawn_row" s_law_drawn_row) (T : Txt K mg C) (G_law_draw : Cal P w K mg base CX0 1 "_law_draw" spDraw) (G_law_choose : Cal P w K mg base CX0 2 "_law_choose" (spChoose K)) : Cal P w K mg base CX0 3 "_law_drawn_row" (spDrawn K) := by
  refine D.cal sc_law_drawn_row (fun _ _ _ _ _ _ us hl => match us, hl with | [_, _, _], _ => rfl) (fun vs H Q E h => ?_) fun f0 cdv A outer s H vs Q E hr h => ?_
  · obtain ⟨p, lw, ln, ws, ns, rfl, _⟩ := h; rfl
  · obtain ⟨p, lw, ln, ws, ns, rfl, st, ew, wp, en, np, w0, w26, ww, n0, n26, nn, k⟩ := h
    refine ⟨_, (pss_cons (ps_set (i := 3) sc_law_drawn_row.nd rfl (Or.inl rfl) (pe_c G_law_choose hr (by decide) rfl (pa_cons (pv 0) (pa_cons (pe_lst (pa_cons pe_str (pa_cons pe_str (pa_cons pe_str (pa_cons pe_str (pa_cons pe_str (pa_cons pe_int (pa_cons pe_non (pa_cons pe_bl (pa_cons (pe_tup (pa_cons pe_str pa_nil)) (pa_cons (pe_lst (pa_cons pe_str pa_nil)) (pa_cons pe_dnewK pa_nil)))))))))))) pa_nil))))
      (pss_cons (ps_set (i := 4) sc_law_drawn_row.nd rfl (Or.inl rfl) (pe_lst (pa_cons pe_int (pa_cons pe_int (pa_cons (pe_op op_pow pe_int pe_int) (pa_cons (pe_c G_law_draw hr (by decide) rfl (pa_cons (pv 0) (pa_cons (pe_op op_pow pe_int pe_int) pa_nil))) (pa_cons (pe_c G_law_draw hr (by decide) rfl (pa_cons (pv 0) (pa_cons pe_int pa_nil))) pa_nil)))))))
      (pss_cons (ps_set (i := 5) sc_law_drawn_row.nd rfl (Or.inl rfl) (pe_lst (pa_cons (pe_c G_law_choose hr (by decide) rfl (pa_cons (pv 0) (pa_cons (pv 1) pa_nil))) (pa_cons (pe_c G_law_choose hr (by decide) rfl (pa_cons (pv 0) (pa_cons (pv 2) pa_nil))) (pa_cons (pe_c G_law_choose hr (by decide) rfl (pa_cons (pv 0) (pa_cons (pv 2) pa_nil))) pa_nil)))))
      (pss_cons (ps_expr (pe_bm F.plainAttrs_list F.slot_list_append F.type_list_append mt_append (pv 5) (pa_cons (pe_c G_law_choose hr (by decide) rfl (pa_cons (pv 0) (pa_cons (pv 4) pa_nil))) pa_nil)))
      (pss_cons (ps_setLc (i := 6) (own := [("at", 7)]) (g := gName 7) (by rfl) sc_law_drawn_row.nd rfl rfl (sw_true rfl rfl rfl (by decide +kernel)) (pi_range1 (by rfl) T.b_range (pa_cons pe_int pa_nil)) (blkOk_by (own := [("at", 7)]) (N := ["stream", "words", "names", "bad_word", "keeps", "row", "odds", "at"]) (sc := defScope s_law_drawn_row) (by decide +kernel)) (fun _ _ _ _ _ => pg_name (i := 7) sc_law_drawn_row.nd rfl (Or.inl rfl)) (fun _ _ _ _ _ => (pts_one (pt_cmpR op_eq (pe_c G_law_draw hr (by decide) rfl (pa_cons (pv 0) (pa_cons pe_int pa_nil))) pe_int (nomark _)))) (fun _ _ _ _ _ => (pv 7)))
      (C8.pss_cut (ps_if (pt_cmpR (r := rIn K false) op_in_seq pe_int (pv 6) rfl) (pss_one (ps_asg (pv 3) (pg_sub (pv 5) pe_int set_list))) pss_nil)
      (pss_cons (ps_for PassesOwn.never rfl (pi_list (pe_lst (pa_cons pe_int (pa_cons pe_int pa_nil)))) (pg_name (i := 7) sc_law_drawn_row.nd rfl (Or.inl rfl)) (pss_one (ps_if (pt_cmpR (r := rIn K false) op_in_seq (pv 7) (pv 6) rfl) (pss_one (ps_asg (pe_c G_law_choose hr (by decide) rfl (pa_cons (pv 0) (pa_cons (pe_lst (pa_cons (pv 3) (pa_cons (pe_op op_add_str (pe_ix (r := rIxL K) ix_list (pv 2) pe_int (fun _ _ => rfl)) (pe_op op_mul_str pe_str pe_int)) (pa_cons pe_int (pa_cons pe_non pa_nil))))) pa_nil))) (pg_sub (pv 5) (pv 7) set_list))) pss_nil)))
      (pss_cons (ps_if (pt_cmpR (r := rIn K false) op_in_seq pe_int (pv 6) rfl) (pss_one (ps_asg (pe_c G_law_choose hr (by decide) rfl (pa_cons (pv 0) (pa_cons (pe_lst (pa_cons (pe_un un_neg pe_int) (pa_cons (pe_op op_add (pe_op op_pow pe_int pe_int) pe_int) (pa_cons pe_non (pa_cons pe_bl (pa_cons pe_str (pa_cons (pe_lst (pa_cons pe_int pa_nil)) (pa_cons (pe_tup pa_nil) pa_nil)))))))) pa_nil))) (pg_sub (pv 5) pe_int set_list))) pss_nil)
      (pss_one (ps_ret (pe_lst (pa_cons (pv 5) (pa_cons (pv 6) pa_nil))))))))))))), ?_⟩
    have cp9 : CPow 10 9 := ⟨by decide, by decide, by decide⟩
    have cp30 : CPow 10 30 := ⟨by decide, by decide, by decide⟩
    have z1 : 1 ≤ sizeLine := by decide
    have z3 : 3 ≤ sizeLine := by decide
    have z5 : 5 ≤ sizeLine := by decide
    have z11 : 11 ≤ sizeLine := by decide
    refine ⟨_, rfl, z1, fun tt ntt => ⟨z1, fun tl ntl td ntd => ⟨z11, fun lb nlb => ?_⟩⟩⟩
    have s1 := ((same_new (o := .tup [.str "a"]) ntt).trans (same_new (o := .lst [.str "a"]) ntl)).trans (same_new (o := .dK []) ntd)
    have ett : upd (upd (upd (upd H tt (.tup [.str "a"])) tl (.lst [.str "a"])) td (.dK [])) lb (.lst (odc tt tl td)) tt = some (.tup [.str "a"]) := (same_new nlb) _ _ ((same_new ntd) _ _ ((same_new ntl) _ _ upd_same))
    have etl : upd (upd (upd (upd H tt (.tup [.str "a"])) tl (.lst [.str "a"])) td (.dK [])) lb (.lst (odc tt tl td)) tl = some (.lst [.str "a"]) := (same_new nlb) _ _ ((same_new ntd) _ _ upd_same)
    have etd : upd (upd (upd (upd H tt (.tup [.str "a"])) tl (.lst [.str "a"])) td (.dK [])) lb (.lst (odc tt tl td)) td = some (.dK []) := (same_new nlb) _ _ upd_same
    have ttp : tt ≠ p := st.ne ntt
    have tlp : tl ≠ p := (st.new ntt).ne ntl
    have tdp : td ≠ p := ((st.new ntt).new ntl).ne ntd
    have st1 : StA (upd (upd (upd (upd H tt (.tup [.str "a"])) tl (.lst [.str "a"])) td (.dK [])) lb (.lst (odc tt tl td))) p := (((st.new ntt).new ntl).new ntd).new nlb
    have B1 : SameB p H (upd (upd (upd (upd H tt (.tup [.str "a"])) tl (.lst [.str "a"])) td (.dK [])) lb (.lst (odc tt tl td))) := SameB.of (s1.trans (same_new nlb))
    have lbp : lb ≠ p := (((st.new ntt).new ntl).new ntd).ne nlb
    have elb := upd_same (H := upd (upd (upd H tt (.tup [.str "a"])) tl (.lst [.str "a"])) td (.dK [])) (a := lb) (o := .lst (odc tt tl td))
    generalize upd (upd (upd (upd H tt _) tl _) td _) lb _ = H1 at *
    clear s1
    have pnot : ∀ {H2 : Hp} {q : Addr} {o : HO}, H2 q = some o → q ≠ p → hid [p] H2 q = some o := fun e n => hid_in e fun m => n (List.mem_singleton.mp m)
    have oc3 := odc_odd (K := K) (pnot ett ttp) (pnot etl tlp) (pnot etd tdp)
    obtain ⟨xa, xb, xe, xh⟩ := id st1
    refine ⟨p, _, xa, xb, rfl, xe, xh, .inl ⟨lb, _, rfl, SqL.of elb, lbp, (by show 0 < 11; decide), (by show 11 < 1000; decide), fun j' bw a' b' hj' ha' => ?_⟩⟩
    have hbw := List.mem_of_getElem? hj'
    have sb2 : SameB p H1 (upd H1 p (.lst [.int a', .int b'])) := SameB.mut (SameB.refl p H1)
    have st2 : StA (upd H1 p (.lst [.int a', .int b'])) p := ⟨a', b', upd_same, ha'⟩
    generalize upd H1 p (.lst [.int a', .int b']) = H2 at *
    clear xe xh ha' hj'
    have OB := (oc3 bw hbw).keep (hid_b sb2)
    have B2 := B1.trans sb2
    clear ett etl etd ttp tlp tdp oc3 hbw elb lbp B1 st1 sb2 nlb ntt ntl ntd
    obtain ⟨xa, xb, xe, xh⟩ := id st2
    refine ⟨_, _, rfl, rfl, cp30, _, rfl, _, _, rfl, rfl, cp9, p, xa, xb, _, rfl, xe, xh, (by decide), (by decide +kernel), fun v a' b' v0 v1 ha' => ?_⟩
    have sb3 : SameB p H2 (upd H2 p (.lst [.int a', .int b'])) := SameB.mut (SameB.refl p H2)
    have st3 : StA (upd H2 p (.lst [.int a', .int b'])) p := ⟨a', b', upd_same, ha'⟩
    generalize upd H2 p (.lst [.int a', .int b']) = H3 at *
    clear xe xh ha'
    obtain ⟨xa, xb, xe, xh⟩ := id st3
    refine ⟨_, rfl, p, xa, xb, _, rfl, xe, xh, (by decide), (by decide), fun u a' b' u0 u1 ha' => ?_⟩
    have sb4 : SameB p H3 (upd H3 p (.lst [.int a', .int b'])) := SameB.mut (SameB.refl p H3)
    have st4 : StA (upd H3 p (.lst [.int a', .int b'])) p := ⟨a', b', upd_same, ha'⟩
    generalize upd H3 p (.lst [.int a', .int b']) = H4 at *
    clear xe xh ha'
    refine ⟨z5, fun lk nlk => ?_⟩
    have B4 := (B2.trans (sb3.trans sb4)).new (o := .lst [.int 0, .int 1, .int (10 ^ (30 : Int).toNat), .int v, .int u]) nlk
    have OB4 := (OB.keep (hid_b (sb3.trans sb4))).keep (hid_b (SameB.of (same_new (o := .lst [.int 0, .int 1, .int (10 ^ (30 : Int).toNat), .int v, .int u]) nlk)))
    have st5 := st4.new (o := .lst [.int 0, .int 1, .int (10 ^ (30 : Int).toNat), .int v, .int u]) nlk
    have lkp : lk ≠ p := st4.ne nlk
    have kL : ∀ y ∈ ([.int 0, .int 1, .int (10 ^ (30 : Int).toNat), .int v, .int u] : List V), ∃ i : Int, y = .int i ∧ 0 ≤ i ∧ i ≤ L := by
      have hL := L_eq
      have h9 := p9
      have h30 := p30
      intro y hy
      simp only [List.mem_cons, List.not_mem_nil, or_false] at hy
      rcases hy with rfl | rfl | rfl | rfl | rfl
      · exact ⟨0, rfl, by omega, by omega⟩
      · exact ⟨1, rfl, by omega, by omega⟩
      · exact ⟨_, rfl, by omega, by omega⟩
      · exact ⟨_, rfl, by omega, by omega⟩
      · exact ⟨_, rfl, by omega, by omega⟩
    have klen : ([.int 0, .int 1, .int (10 ^ (30 : Int).toNat), .int v, .int u] : List V).length = 5 := rfl
    have elk := upd_same (H := H4) (a := lk) (o := .lst [.int 0, .int 1, .int (10 ^ (30 : Int).toNat), .int v, .int u])
    generalize upd H4 lk _ = H5 at *
    generalize ([.int 0, .int 1, .int (10 ^ (30 : Int).toNat), .int v, .int u] : List V) = ks at *
    clear sb3 sb4 st2 st3 st4 OB B2 nlk v0 v1 u0 u1
    have strz : ∀ {zs : List Str} {y : V}, y ∈ zs.map V.str → ∃ z, y = .str z ∧ z ∈ zs := fun {zs y} m => let ⟨z, h, e⟩ := List.mem_map.mp m; ⟨z, e.symm, h⟩
    obtain ⟨xa, xb, xe, xh⟩ := id st5
    refine ⟨_, rfl, _, rfl, p, _, xa, xb, rfl, xe, xh, .inl ⟨lw, _, rfl, SqL.of (B4 _ _ ew wp), wp, (by rw [List.length_map]; exact w0), (by rw [List.length_map]; omega), fun j' y0 a' b' hj' ha' => ?_⟩⟩
    have hy0 := List.mem_of_getElem? hj'
    have sb6 : SameB p H5 (upd H5 p (.lst [.int a', .int b'])) := SameB.mut (SameB.refl p H5)
    have st6 : StA (upd H5 p (.lst [.int a', .int b'])) p := ⟨a', b', upd_same, ha'⟩
    generalize upd H5 p (.lst [.int a', .int b']) = H6 at *
    clear xe xh ha' hj'
    have B6 := B4.trans sb6
    obtain ⟨xa, xb, xe, xh⟩ := id st6
    refine ⟨_, rfl, _, rfl, p, _, xa, xb, rfl, xe, xh, .inl ⟨ln, _, rfl, SqL.of (B6 _ _ en np), np, (by rw [List.length_map]; exact n0), (by rw [List.length_map]; omega), fun j' y1 a' b' hj' ha' => ?_⟩⟩
    have hy1 := List.mem_of_getElem? hj'
    have sb7 : SameB p H6 (upd H6 p (.lst [.int a', .int b'])) := SameB.mut (SameB.refl p H6)
    have st7 : StA (upd H6 p (.lst [.int a', .int b'])) p := ⟨a', b', upd_same, ha'⟩
    generalize upd H6 p (.lst [.int a', .int b']) = H7 at *
    clear xe xh ha' hj'
    have B7 := B6.trans sb7
    obtain ⟨xa, xb, xe, xh⟩ := id st7
    refine ⟨_, rfl, _, rfl, p, _, xa, xb, rfl, xe, xh, .inl ⟨ln, _, rfl, SqL.of (B7 _ _ en np), np, (by rw [List.length_map]; exact n0), (by rw [List.length_map]; omega), fun j' y2 a' b' hj' ha' => ?_⟩⟩
    have hy2 := List.mem_of_getElem? hj'
    have sb8 : SameB p H7 (upd H7 p (.lst [.int a', .int b'])) := SameB.mut (SameB.refl p H7)
    have st8 : StA (upd H7 p (.lst [.int a', .int b'])) p := ⟨a', b', upd_same, ha'⟩
    generalize upd H7 p (.lst [.int a', .int b']) = H8 at *
    clear xe xh ha' hj'
    refine ⟨z3, fun lr nlr => ?_⟩
    have sb5 := (sb6.trans sb7).trans sb8
    have lrp : lr ≠ p := st8.ne nlr
    have B9 := (B7.trans sb8).new (o := .lst [y0, y1, y2]) nlr
    have OB8 := OB4.keep (hid_b sb5)
    have nlr8 := nlr
    have s89 := SameB.of (p := p) (same_new (o := .lst [y0, y1, y2]) nlr)
    have elk9 := (sb5.new (o := .lst [y0, y1, y2]) nlr) _ _ elk lkp
    have st9 := st8.new (o := .lst [y0, y1, y2]) nlr
    have nlrH : H lr = none := by
      cases c : H lr with
      | none => rfl
      | some o => rw [(B7.trans sb8) _ _ c lrp] at nlr; cases nlr
    have elr9 := upd_same (H := H8) (a := lr) (o := .lst [y0, y1, y2])
    generalize upd H8 lr _ = H9 at *
    clear sb5 sb6 sb7 sb8 st5 st6 st7 st8 B4 B6 B7 OB4 elk nlr
    obtain ⟨xa, xb, xe, xh⟩ := id st9
    refine ⟨_, rfl, .inl ⟨rfl, _, .inl (.inl elr9)⟩, _, rfl, _, rfl, p, _, xa, xb, rfl, xe, xh, .inl ⟨lk, _, rfl, SqL.of elk9, lkp, (by rw [klen]; decide), (by rw [klen]; decide), fun j' y3 a' b' hj' ha' => ?_⟩⟩
    have hy3 := List.mem_of_getElem? hj'
    have sbA : SameB p H9 (upd H9 p (.lst [.int a', .int b'])) := SameB.mut (SameB.refl p H9)
    have stA : StA (upd H9 p (.lst [.int a', .int b'])) p := ⟨a', b', upd_same, ha'⟩
    generalize upd H9 p (.lst [.int a', .int b']) = HA at *
    clear xe xh ha' hj'
    have elrA := sbA _ _ elr9 lrp
    refine ⟨lr, _, _, rfl, rfl, elrA, (by show 3 < sizeLine; decide), ?_⟩
    obtain ⟨z0, rfl, m0⟩ := strz hy0
    obtain ⟨z1, rfl, m1⟩ := strz hy1
    obtain ⟨z2, rfl, m2⟩ := strz hy2
    obtain ⟨i3, rfl, i30, i3L⟩ := kL _ hy3
    have lnr : ln ≠ lr := ne_of_none en nlrH
    have DB : DI H p lr (hid [p] H8) (upd HA lr (.lst ([.str z0, .str z1, .str z2] ++ [.int i3]))) (.str z0) (.str z1) (.str z2) (.int i3) := by
      obtain ⟨xa, xb, xe, xh⟩ := id stA
      refine ⟨⟨xa, xb, by rw [upd_ne lrp.symm]; exact xe, xh⟩, fun q o e n => by rw [upd_ne (ne_of_none e nlrH)]; exact (B9.trans sbA) q o e n, upd_same, fun q o e => ?_⟩
      obtain ⟨e1, n1⟩ := hid_get e
      have n2 : q ≠ p := fun z => n1 (List.mem_singleton.mpr z)
      have n3 : q ≠ lr := ne_of_none e1 nlr8
      exact hid_in (by rw [upd_ne n3]; exact (s89.trans sbA) q o e1 n2) (not2 n2 n3)
    generalize upd HA lr _ = HB at *
    have OBB := OB8.keep DB.vw
    have enB : hid [p, lr] HB ln = some (.lst (ns.map V.str)) := hid_in (DB.sb _ _ en np) (not2 np lnr)
    have DB' : DI H p lr (hid [p, lr] HB) HB (.str z0) (.str z1) (.str z2) (.int i3) := ⟨DB.st, DB.sb, DB.er, .refl _⟩
    clear DB OB8 s89 sbA B9 stA elrA elr9 st9 elk9 nlr8 hy0 hy1 hy2 hy3 kL klen strz
    refine ⟨4, rfl, by decide, by decide, fun D nD => lc_range (lo := 0) (n := 4) (fun i H' => ∃ os : List Int, H' D = some (.lst (os.map V.int)) ∧ os.length ≤ i ∧ D ≠ p ∧ D ≠ lr ∧ DI H p lr (hid [p, lr] HB) H' (.str z0) (.str z1) (.str z2) (.int i3)) ?_ ?_ ?_⟩
    · have Dp := DB'.st.ne nD
      exact ⟨[], upd_same, Nat.le_refl _, Dp, (ne_of_none DB'.er nD).symm, DB'.step lrp (SameB.of (same_new nD)) (DB'.st.new nD)⟩
    · rintro i H' hi ⟨os, eD, ol, Dp, Dr, di⟩
      refine ⟨rfl, ?_⟩
      obtain ⟨xa, xb, xe, xh⟩ := id di.st
      refine ⟨_, rfl, p, xa, xb, _, rfl, xe, xh, (by decide), (by decide), fun v a' b' v0 v1 ha' => ?_⟩
      have sbC : SameB p H' (upd H' p (.lst [.int a', .int b'])) := SameB.mut (SameB.refl p H')
      have stC : StA (upd H' p (.lst [.int a', .int b'])) p := ⟨a', b', upd_same, ha'⟩
      generalize upd H' p (.lst [.int a', .int b']) = HC at *
      clear xe xh ha'
      have diC := di.step lrp sbC stC
      have eDC := sbC _ _ eD Dp
      refine ⟨rfl, _, rfl, ?_⟩
      by_cases c : v = 0
      · refine iteTe (show decide (V.int v = V.int 0) = true from decide_eq_true (by rw [c])) ⟨_, rfl, _, eDC, by rw [List.length_map, sizeLine_eq]; omega, os ++ [0 + (i : Int)], by rw [upd_same, List.map_append]; rfl, by rw [List.length_append]; show os.length + 1 ≤ i + 1; omega, Dp, Dr, ?_⟩
        obtain ⟨xa, xb, xe, xh⟩ := diC.st
        refine ⟨⟨xa, xb, by rw [upd_ne Dp.symm]; exact xe, xh⟩, fun q o e n => ?_, by rw [upd_ne Dr.symm]; exact diC.er, fun q o e => ?_⟩
        · have nDH : H D = none := by
            cases c : H D with
            | none => rfl
            | some o2 => rw [DB'.sb _ _ c Dp] at nD; cases nD
          rw [upd_ne (ne_of_none e nDH)]
          exact diC.sb q o e n
        · have qD : q ≠ D := ne_of_none (hid_get e).1 nD
          have e2 := hid_get (diC.vw q o e)
          exact hid_in (by rw [upd_ne qD]; exact e2.1) e2.2
      · exact iteFe (show decide (V.int v = V.int 0) = false from decide_eq_false fun q => c (by injection q)) ⟨os, eDC, by omega, Dp, Dr, diC⟩
    rintro H' ⟨os, eD, ol, Dp, Dr, di⟩
    have OBD := OBB.keep di.vw
    have enD := di.vw _ _ enB
    have eoD : hid [p, lr] H' D = some (.lst (os.map V.int)) := hid_in eD (not2 Dp Dr)
    have DI0 : DI H p lr (hid [p, lr] H') H' (.str z0) (.str z1) (.str z2) (.int i3) := ⟨di.st, di.sb, di.er, .refl _⟩
    have nDH : H D = none := by
      cases c : H D with
      | none => rfl
      | some o2 => rw [DB'.sb _ _ c Dp] at nD; cases nD
    generalize hid [p, lr] H' = W at *
    clear di DB' OBB enB nD eD ol
    refine ⟨fun sg H2 => ∃ (y0 : V) (v7 : Option V), sg = [some (.ref p), some (.ref lw), some (.ref ln), some bw, some (.ref lk), some (.ref lr), some (.ref D), v7] ∧ DI H p lr W H2 y0 (.str z1) (.str z2) (.int i3) ∧ (fl os 0 = true → OddC K W y0) ∧ (fl os 0 = false → ∃ z, y0 = .str z ∧ Wd z), ?_, ?_⟩
    · refine ⟨_, rfl, D, _, rfl, .inl (SqL.of (hid_get (DI0.vw _ _ eoD)).1), rfl, flat_ints os, _, rfl, ?_⟩
      change (if fl os 0 = true then _ else _)
      cases f0 : fl os 0 with
      | true => exact iteT ⟨_, rfl, _, rfl, lr, _, 0, 0, rfl, rfl, DI0.er, rfl, bw, _, rfl, DI0.set lrp nlrH, fun _ => OBD, fun z => nomatch z⟩
      | false => exact iteF ⟨_, _, rfl, DI0, (fun z => nomatch z), fun _ => ⟨z0, rfl, ww _ m0⟩⟩
    rintro sg H2 ⟨y0, v7, rfl, DI2, P0, G0⟩
    clear DI0
    refine ⟨(by show 2 ≤ sizeLine; decide), fun la nla => ⟨la, rfl, ⟨_, SqL.of upd_same⟩, ?_⟩⟩
    have DI3 := DI2.step lrp (SameB.of (same_new (o := .lst [.int 1, .int 2]) nla)) (DI2.st.new nla)
    have lap := DI2.st.ne nla
    have ela : upd H2 la (.lst [.int 1, .int 2]) la = some (.lst [.int 1, .int 2]) := upd_same
    have lar : la ≠ lr := fun z => by rw [z, DI2.er] at nla; cases nla
    obtain ⟨nz, enz⟩ : ∃ z, ns[0]? = some z := ⟨_, List.getElem?_eq_getElem n0⟩
    have wn := nn _ (List.mem_of_getElem? enz)
    have at0 : atI (ns.map V.str) 0 = some (.str nz) := atI_nat (j := 0) (by rw [List.getElem?_map, enz]; rfl)
    have l9 : ("xxxxxxxxx" : Str).length = 9 := by decide +kernel
    have nzl := wn.2.2
    change ∃ W : Nat → Nat → L2.St → Hp → Prop, _
    generalize upd H2 la _ = H3 at *
    refine for_list (K := K) (a := la) (xs := [.int 1, .int 2]) (fun i σ H' => ∃ (y1 y2 : V) (v7 : Option V), σ = [some (.ref p), some (.ref lw), some (.ref ln), some bw, some (.ref lk), some (.ref lr), some (.ref D), v7] ∧ H' la = some (.lst [.int 1, .int 2]) ∧ DI H p lr W H' y0 y1 y2 (.int i3) ∧
      ((1 ≤ i ∧ fl os 1 = true → OddC K W y1) ∧ (i = 0 ∨ fl os 1 = false → ∃ z, y1 = .str z ∧ z ∈ ns)) ∧ ((2 ≤ i ∧ fl os 2 = true → OddC K W y2) ∧ (i ≤ 1 ∨ fl os 2 = false → ∃ z, y2 = .str z ∧ z ∈ ns))) ⟨_, _, _, rfl, ela, DI3, ⟨fun h => absurd h.1 (by omega), fun _ => ⟨z1, rfl, m1⟩⟩, ⟨fun h => absurd h.1 (by omega), fun _ => ⟨z2, rfl, m2⟩⟩⟩ ?_ ?_ ?_
    · rintro i σ H' _ ⟨y1, y2, v7, rfl, e, _⟩
      exact SqL.of e
    · rintro i x σ H' ex ⟨y1, y2, v7, rfl, e, di, P1, P2⟩
      match i, P1, P2, ex with
      | 0, P1, P2, ex =>
        cases ex
        refine ⟨_, rfl, _, rfl, D, _, rfl, .inl (SqL.of (hid_get (di.vw _ _ eoD)).1), rfl, flat_ints os, _, rfl, ?_⟩
        change (if fl os 1 = true then _ else _)
        cases f1 : fl os 1 with
        | true =>
          refine iteT ?_
          refine ⟨_, rfl, _, rfl, _, rfl, ln, _, 0, .str nz, rfl, rfl, SqL.of (hid_get (di.vw _ _ enD)).1, at0, "x", 9, rfl, rfl, (by decide), (by decide), rfl, _, _, rfl, rfl, (by rw [nine_x, l9, sizeLine_eq]; omega), (by show 4 ≤ sizeLine; decide), fun lb nlb => ?_⟩
          have di4 := di.step lrp (SameB.of (same_new (o := .lst (od4 bw nz)) nlb)) (di.st.new nlb)
          have elb : upd H' lb (.lst (od4 bw nz)) lb = some (.lst (od4 bw nz)) := upd_same
          have lbp := di.st.ne nlb
          have e4 : upd H' lb (.lst (od4 bw nz)) la = some (.lst [.int 1, .int 2]) := (same_new nlb) _ _ e
          generalize upd H' lb (.lst (od4 bw nz)) = H4 at *
          obtain ⟨xa, xb, xe, xh⟩ := id di4.st
          refine ⟨p, _, xa, xb, rfl, xe, xh, .inl ⟨lb, _, rfl, SqL.of elb, lbp, (by show 0 < 4; decide), (by show 4 < 1000; decide), fun j' v a' b' hj' ha' => ?_⟩⟩
          have hv := List.mem_of_getElem? hj'
          have sb5 : SameB p H4 (upd H4 p (.lst [.int a', .int b'])) := SameB.mut (SameB.refl p H4)
          have st5 : StA (upd H4 p (.lst [.int a', .int b'])) p := ⟨a', b', upd_same, ha'⟩
          generalize upd H4 p (.lst [.int a', .int b']) = H5 at *
          clear xe xh ha' hj'
          have di5 := di4.step lrp sb5 st5
          have ov := od4_odd OBD wn v hv
          refine ⟨_, rfl, _, rfl, lr, _, 1, 1, rfl, rfl, di5.er, rfl, v, y2, _, rfl, by rw [upd_ne lar]; exact sb5 _ _ e4 lap, di5.set lrp nlrH, ⟨fun _ => ov, fun h => by rcases h with h | h <;> cases h⟩, ⟨(fun h => absurd h.1 (by omega)), fun _ => P2.2 (.inl (by omega))⟩⟩
        | false => exact iteF ⟨_, _, _, rfl, e, di, ⟨(fun h => nomatch h.2), fun _ => P1.2 (.inl rfl)⟩, ⟨(fun h => absurd h.1 (by omega)), fun _ => P2.2 (.inl (by omega))⟩⟩
      | 1, P1, P2, ex =>
        cases ex
        refine ⟨_, rfl, _, rfl, D, _, rfl, .inl (SqL.of (hid_get (di.vw _ _ eoD)).1), rfl, flat_ints os, _, rfl, ?_⟩
        change (if fl os 2 = true then _ else _)
        cases f2 : fl os 2 with
        | true =>
          refine iteT ?_
          refine ⟨_, rfl, _, rfl, _, rfl, ln, _, 0, .str nz, rfl, rfl, SqL.of (hid_get (di.vw _ _ enD)).1, at0, "x", 9, rfl, rfl, (by decide), (by decide), rfl, _, _, rfl, rfl, (by rw [nine_x, l9, sizeLine_eq]; omega), (by show 4 ≤ sizeLine; decide), fun lb nlb => ?_⟩
          have di4 := di.step lrp (SameB.of (same_new (o := .lst (od4 bw nz)) nlb)) (di.st.new nlb)
          have elb : upd H' lb (.lst (od4 bw nz)) lb = some (.lst (od4 bw nz)) := upd_same
          have lbp := di.st.ne nlb
          have e4 : upd H' lb (.lst (od4 bw nz)) la = some (.lst [.int 1, .int 2]) := (same_new nlb) _ _ e
          generalize upd H' lb (.lst (od4 bw nz)) = H4 at *
          obtain ⟨xa, xb, xe, xh⟩ := id di4.st
          refine ⟨p, _, xa, xb, rfl, xe, xh, .inl ⟨lb, _, rfl, SqL.of elb, lbp, (by show 0 < 4; decide), (by show 4 < 1000; decide), fun j' v a' b' hj' ha' => ?_⟩⟩
          have hv := List.mem_of_getElem? hj'
          have sb5 : SameB p H4 (upd H4 p (.lst [.int a', .int b'])) := SameB.mut (SameB.refl p H4)
          have st5 : StA (upd H4 p (.lst [.int a', .int b'])) p := ⟨a', b', upd_same, ha'⟩
          generalize upd H4 p (.lst [.int a', .int b']) = H5 at *
          clear xe xh ha' hj'
          have di5 := di4.step lrp sb5 st5
          have ov := od4_odd OBD wn v hv
          refine ⟨_, rfl, _, rfl, lr, _, 2, 2, rfl, rfl, di5.er, rfl, y1, v, _, rfl, by rw [upd_ne lar]; exact sb5 _ _ e4 lap, di5.set lrp nlrH, ⟨fun h => P1.1 ⟨Nat.le_refl _, h.2⟩, fun h => P1.2 (.inr (by rcases h with h | h; (cases h); exact h))⟩, ⟨fun _ => ov, fun h => by rcases h with h | h; (omega); cases h⟩⟩
        | false => exact iteF ⟨_, _, _, rfl, e, di, ⟨fun h => P1.1 ⟨Nat.le_refl _, h.2⟩, fun h => P1.2 (.inr (by rcases h with h | h; (cases h); exact h))⟩, ⟨(fun h => nomatch h.2), fun _ => P2.2 (.inl (Nat.le_refl _))⟩⟩
      | n + 2, _, _, ex => exact absurd ex (by simp)
    rintro σ H4 ⟨y1, y2, v7, rfl, e, di, P1, P2⟩
    have Q1 : fl os 1 = true → OddC K W y1 := fun h => P1.1 ⟨by show 1 ≤ 2; decide, h⟩
    have G1 : fl os 1 = false → ∃ z, y1 = .str z ∧ z ∈ ns := fun h => P1.2 (.inr h)
    have Q2 : fl os 2 = true → OddC K W y2 := fun h => P2.1 ⟨Nat.le_refl _, h⟩
    have G2 : fl os 2 = false → ∃ z, y2 = .str z ∧ z ∈ ns := fun h => P2.2 (.inr h)
    clear P1 P2 ela lap lar DI3 nla DI2 e
    refine ⟨_, rfl, D, _, rfl, .inl (SqL.of (hid_get (di.vw _ _ eoD)).1), rfl, flat_ints os, _, rfl, ?_⟩
    change (if fl os 3 = true then _ else _)
    have free : ∀ {HF : Hp} {l : Addr} {y3 : V}, DI H p lr W HF y0 y1 y2 y3 → HF l = none → H l = none := fun {HF l y3} d nl => by
      cases c : H l with
      | none => rfl
      | some o => rw [d.sb _ _ c (d.st.ne nl)] at nl; cases nl
    have fin : ∀ {HF : Hp} {y3 : V}, DI H p lr W HF y0 y1 y2 y3 → (fl os 3 = true → OddL K (hid [p, lr] HF) y3) → (fl os 3 = false → ∃ i : Int, y3 = .int i ∧ 0 ≤ i ∧ i ≤ L) → 2 ≤ sizeLine ∧ ∀ l, HF l = none → Q (.ref l) (upd HF l (.lst [.ref lr, .ref D])) := fun {HF y3} d P3 G3 => by
      refine ⟨by decide, fun l nl => ?_⟩
      have sl := same_new (o := .lst [.ref lr, .ref D]) nl
      have lp := d.st.ne nl
      have llr : l ≠ lr := fun z => by rw [z, d.er] at nl; cases nl
      have vs : Same (hid [p, lr] HF) (hid [p, lr] (upd HF l (.lst [.ref lr, .ref D]))) := hid_step fun q o e _ => sl _ _ e
      have wv := d.vw.trans vs
      exact k l lr D y0 y1 y2 y3 os _ (free d nl) nlrH nDH (d.sb.new nl) (d.st.new nl) upd_same (sl _ _ d.er) (sl _ _ (hid_get (d.vw _ _ eoD)).1)
        ⟨fun f => (P0 f).keep wv, G0, fun f => (Q1 f).keep wv, G1, fun f => (Q2 f).keep wv, G2, fun f => ⟨(P3 f).1.keep vs, (P3 f).2.keep vs⟩, G3⟩
    cases f3 : fl os 3 with
    | true =>
      refine iteT ?_
      refine ⟨_, rfl, 1, rfl, _, _, rfl, rfl, cp30, _, _, rfl, rfl, by decide, fun t0 nt0 => ⟨by show 0 ≤ sizeLine; decide, fun te nte => ⟨by show 7 ≤ sizeLine; decide, fun lb nlb => ?_⟩⟩⟩
      have d1 := di.step lrp (SameB.of (same_new (o := .lst [.int 0]) nt0)) (di.st.new nt0)
      have d2 := d1.step lrp (SameB.of (same_new (o := .tup []) nte)) (d1.st.new nte)
      have d3 := d2.step lrp (SameB.of (same_new (o := .lst (odl (10 ^ (30 : Int).toNat + 1) t0 te)) nlb)) (d2.st.new nlb)
      have e0 : upd (upd (upd H4 t0 (.lst [.int 0])) te (.tup [])) lb (.lst (odl (10 ^ (30 : Int).toNat + 1) t0 te)) t0 = some (.lst [.int 0]) := (same_new nlb) _ _ ((same_new nte) _ _ upd_same)
      have e1 : upd (upd (upd H4 t0 (.lst [.int 0])) te (.tup [])) lb (.lst (odl (10 ^ (30 : Int).toNat + 1) t0 te)) te = some (.tup []) := (same_new nlb) _ _ upd_same
      have t0p := di.st.ne nt0
      have t0r : t0 ≠ lr := fun z => by rw [z, di.er] at nt0; cases nt0
      have tep := d1.st.ne nte
      have ter : te ≠ lr := fun z => by rw [z, d1.er] at nte; cases nte
      have lbp := d2.st.ne nlb
      have elb : upd (upd (upd H4 t0 (.lst [.int 0])) te (.tup [])) lb (.lst (odl (10 ^ (30 : Int).toNat + 1) t0 te)) lb = some (.lst (odl (10 ^ (30 : Int).toNat + 1) t0 te)) := upd_same
      clear d1 d2
      generalize upd (upd (upd H4 t0 (.lst [.int 0])) te (.tup [])) lb (.lst (odl (10 ^ (30 : Int).toNat + 1) t0 te)) = H5 at *
      obtain ⟨xa, xb, xe, xh⟩ := id d3.st
      refine ⟨p, _, xa, xb, rfl, xe, xh, .inl ⟨lb, _, rfl, SqL.of elb, lbp, (by show 0 < 7; decide), (by show 7 < 1000; decide), fun j' v a' b' hj' ha' => ?_⟩⟩
      have hv := List.mem_of_getElem? hj'
      have sb6 : SameB p H5 (upd H5 p (.lst [.int a', .int b'])) := SameB.mut (SameB.refl p H5)
      have st6 : StA (upd H5 p (.lst [.int a', .int b'])) p := ⟨a', b', upd_same, ha'⟩
      generalize upd H5 p (.lst [.int a', .int b']) = H6 at *
      clear xe xh ha' hj'
      have d6 := d3.step lrp sb6 st6
      have ov := odl_odd (K := K) (hid_in (sb6 _ _ e0 t0p) (not2 t0p t0r)) (hid_in (sb6 _ _ e1 tep) (not2 tep ter)) v hv
      have d7 := d6.set (x0 := y0) (x1 := y1) (x2 := y2) (x3 := v) lrp nlrH
      have vw7 : Same (hid [p, lr] H6) (hid [p, lr] (upd H6 lr (.lst [y0, y1, y2, v]))) := hid_step fun q o e n => by
        rw [upd_ne fun z => n (by rw [z]; exact List.mem_cons_of_mem _ (List.mem_singleton.mpr rfl))]; exact e
      exact ⟨_, rfl, lr, _, 3, 3, rfl, rfl, d6.er, rfl, _, rfl, _, rfl, fin d7 (fun _ => ⟨ov.1.keep vw7, ov.2.keep vw7⟩) (fun z => by rw [f3] at z; cases z)⟩
    | false => exact iteF ⟨_, rfl, _, rfl, fin di (fun z => by rw [f3] at z; cases z) (fun _ => ⟨i3, rfl, i30, i3L⟩)⟩
end

end K14

namespace K14
open PySem PySem.Spec PyProof.Rows L2 Jg
local macro_rules | `(tactic| walk_at "rd1") => `(tactic| (first
  | refine ⟨_, rfl, ?_⟩
  | refine ⟨_, _, rfl, rfl, ?_⟩
  | refine ⟨_, _, rfl, ?_⟩
  | refine ⟨rfl, ?_⟩
  | (refine ⟨show (0 : Int) < _ by omega, ?_⟩)
  | (refine ⟨Or.inl ⟨by omega, by omega⟩, ?_⟩)
  | (refine ⟨Or.inr ⟨by omega, by omega⟩, ?_⟩)
  | (refine ⟨(⟨by decide, by decide, by decide⟩ : CPow _ _), ?_⟩)
  | refine Or.inl ⟨_, rfl, ?_⟩
  | refine Or.inr ⟨_, rfl, ?_⟩
  | fail "rd"))
local macro_rules | `(tactic| walk_at "rd") => `(tactic| repeat' walk_at "rd1")


/-! the fleet of the law -/
theorem pe_mk0 {X : Cx} {k j : Nat} {C : Addr} {x : Str} {sp : Sp} {p pos : Pos} (c : Mak X.prog X.w X.K X.mg X.base CX0 k x C sp) (hr : Room j X.A) (hk : k + 1 ≤ j) (hg : Gl X x) (hdb : (x == ("__debug__" : Str)) = false := by decide) :
    PE X (.Call (.Name x p) [] [] pos) (tMake C sp [] E0 tNil) := by
  obtain ⟨f, fd, ps, F, a, i, kp, b⟩ := c.init.ex
  exact pe_make0 ⟨c.mks, a, i, c.kp⟩ F (hr.mono hk) hg c.mg_ b .nil pass0 hdb
theorem mk_same {C : Addr} {H H1 : Hp} {x dx : Addr} (nx : H x = none) (ndx : H dx = none) (nex : dx ≠ x) : Same H (upd (upd H dx (.own x)) x (.ins C dx [])) := same_new' (same_new ndx) (by rw [upd_ne (Ne.symm nex)]; exact nx)
def rG (g : Int) : Kd := ⟨g, none, none⟩
theorem ok_G {g : Int} (h1 : 1 ≤ g) (h2 : g ≤ 1000) : KOk (rG g) := ⟨⟨h1, by have := L_eq; show g ≤ L; omega⟩, (fun i e => by cases e), fun z e => by cases e⟩
theorem kmk1 {K : PySem.W.Frag} {C CI : Addr} {H : Hp} {g : Int} {F : VK} {E : XK} {x dx : Addr} (nx : H x = none) (ndx : H dx = none) (nex : dx ≠ x) (ok : KOk (rG g)) (q : ∀ H', Same H H' → KAt C H' x (rG g) → F .non H') :
    spKInit K C CI [.ref x, .int g, .non, .non] (upd (upd H dx (.own x)) x (.ins C dx [])) F E :=
  ⟨x, dx, _, _, _, H, rfl, upd_same, mk_same (H1 := H) nx ndx nex, nx, .inl ⟨rG g, rfl, rfl, rfl, ok, fun H1 ka kp => q H1 (Same.made nx ndx kp) ka⟩⟩
/-- all kinds stand next to the publisher -/
def NoS (ks : Ks) : Prop := ∀ e ∈ ks, e.2.1.s = none
theorem NoS.src {ks : Ks} (h : NoS ks) (z : Str) : srcOf ks z = none := by
  unfold srcOf
  cases c : kdOf ks z with
  | none => rfl
  | some o => exact h o (List.mem_of_find?_eq_some c)
theorem NoS.lg {ks : Ks} (h : NoS ks) : ks.any (lg ks) = false := by
  rw [List.any_eq_false]
  intro e he q
  have q1 : (4 : Int) < ((chainF ks e.1).map V.str).length := of_decide_eq_true q
  unfold chainF at q1
  rw [h.src] at q1
  exact absurd q1 (by show ¬ ((4 : Int) < ((1 : Nat) : Int)); decide)
theorem NoS.put {ks : Ks} (h : NoS ks) {z : Str} {g : Int} {x : Addr} : NoS (putKs ks z (rG g) x) := fun e he => by
  rcases mem_put he with q | q
  · exact h e q
  · rw [q]; rfl
theorem NoS.fed {ks : Ks} (h : NoS ks) : Fed ks := fun e he z ez => by rw [h e he] at ez; cases ez
def g1 : List V → List V → List V := fun vs zs => vs ++ zs ++ [.non, .non]
def spFleetOf (K : PySem.W.Frag) (F C : Addr) : Sp := fun vs H Q _ => ∃ (ln ls : Addr) (ns : List Str) (gs : List Int), vs = [.ref ln, .ref ls] ∧ H ln = some (.lst (ns.map V.str)) ∧ H ls = some (.lst (gs.map V.int)) ∧ ns.length = gs.length ∧ ns.length ≤ 5 ∧ ns.Nodup ∧ (∀ z ∈ ns, Wd z) ∧ (∀ g ∈ gs, 1 ≤ g ∧ g ≤ 1000) ∧
  ∀ f d c ks H', H f = none → H d = none → H c = none → Same H H' → FltAt F C H' f d c ks [] → ks.map (·.1) = ns → ks.map (·.2.1) = gs.map rG → Q (.ref f) H'
section
variable {P : Program} {w : World} {K : PySem.W.Frag} {mg : Str → Option Value} {base : Heap} {C CI CU CO FC : Addr}
abbrev s_law_fleet_of : Stmt := top 32
theorem sc_law_fleet_of : FnScope ["names", "spans", "fleet", "name", "span"] ["names", "spans"] (defScope s_law_fleet_of) := ⟨rfl, rfl, rfl, by decide +kernel, rfl, by decide +kernel, by decide +kernel⟩
theorem ok_fleet_of (D : DefK K mg "_law_fleet_of" s_law_fleet_of) (T4 : TxM K mg) (TF : FTx K mg FC) (M_Fleet : Mak P w K mg base CX0 1 "Fleet" FC (spFInit FC C)) (M_Kind1 : MakW P w K mg base (L2.CX P w) 5 "Kind" C ["gap"] g1 (spKInit K C CI)) (M_set : Met P w K mg base (L2.CX P w) 8 FC "__setitem__" (spSet K FC C CI CU CO)) : Cal P w K mg base CX0 9 "_law_fleet_of" (spFleetOf K FC C) := by
  refine D.cal sc_law_fleet_of (fun _ _ _ _ _ _ us hl => match us, hl with | [_, _], _ => rfl) (fun vs H Q E h => ?_) fun f0 cdv A outer s H vs Q E hr h => ?_
  · obtain ⟨ln, ls, ns, gs, rfl, _⟩ := h; rfl
  · obtain ⟨ln, ls, ns, gs, rfl, en, es, lg, n5, nd, ww, gg, k⟩ := h
    refine ⟨_, (pss_cons (ps_set (i := 2) sc_law_fleet_of.nd rfl (Or.inl rfl) (pe_mk0 M_Fleet hr (by decide) rfl))
      (pss_cons (ps_for PassesOwn.never rfl (pi_zip (by rfl) T4.b_zip (pa_cons (pv 0) (pa_cons (pv 1) pa_nil))) (pg_tup rfl (pgs_cons (pg_name (i := 3) sc_law_fleet_of.nd rfl (Or.inl rfl)) (pgs_cons (pg_name (i := 4) sc_law_fleet_of.nd rfl (Or.inl rfl)) pgs_nil))) (pss_one (ps_asg (pe_mkKS M_Kind1 takes0 hr (by decide) rfl (pk_cons (pv 4) pk_nil)) (pg_subO M_set TF.ns takes0 hr (by decide) (pv 2) (pv 3)))))
      (pss_one (ps_ret (pv 2))))), ?_⟩
    intro f dx nf ndx nef
    refine ⟨f, dx, rfl, upd_same, fun H3 d0 c nd0 nc0 fa0 keep3 => ⟨rfl, ?_⟩⟩
    have s3 : Same H H3 := fun q o e => by
      have n : q ≠ f := ne_of_none e nf
      exact keep3 q o (by rw [upd_ne n, upd_ne (ne_of_none e ndx)]; exact e) n
    have frs : ∀ {q : Addr}, upd (upd H dx (.own f)) f (.ins FC dx []) q = none → H q = none := fun {q} n => by
      cases c : H q with
      | none => rfl
      | some o =>
        have n1 : q ≠ f := ne_of_none c nf
        rw [upd_ne n1, upd_ne (ne_of_none c ndx), c] at n; cases n
    have nd' := frs nd0
    have nc' := frs nc0
    clear nd0 nc0 frs keep3
    refine ⟨_, rfl, _, rfl, ln, ls, ns.map V.str, gs.map V.int, rfl, SqL.of (s3 _ _ en), SqL.of (s3 _ _ es), ?_⟩
    refine RZ.for_zipL (K := K) (a := ln) (b := ls) (xs := ns.map V.str) (ys := gs.map V.int) (by rw [List.length_map, List.length_map]; exact lg) (fun i sg H' => ∃ (v3 v4 : Option V) (d : Addr) (ks : Ks), sg = [some (.ref ln), some (.ref ls), some (.ref f), v3, v4] ∧ Same H H' ∧ H d = none ∧ FltAt FC C H' f d c ks [] ∧ ks.map (·.1) = ns.take i ∧ ks.map (·.2.1) = (gs.take i).map rG) ⟨_, _, d0, [], rfl, s3, nd', fa0, rfl, rfl⟩ ?_ ?_ ?_
    · rintro i σ H' ⟨v3, v4, d, ks, rfl, s2, _⟩
      exact ⟨s2.seq (SqL.of en), s2.seq (SqL.of es)⟩
    · rintro i x y T σ H' ex ey ⟨v3, v4, d, ks, rfl, s2, dn, fa, nk, gk⟩ nT
      rw [List.getElem?_map] at ex ey
      cases ez : ns[i]? with
      | none => rw [ez] at ex; cases ex
      | some z =>
      cases eg : gs[i]? with
      | none => rw [eg] at ey; cases ey
      | some gv =>
      rw [ez] at ex; rw [eg] at ey; cases ex; cases ey
      have ilt := (List.getElem?_eq_some_iff.mp ez).1
      have wz := ww z (List.mem_of_getElem? ez)
      have g1' := gg gv (List.mem_of_getElem? eg)
      refine ⟨T, _, rfl, SqT.of upd_same, rfl, _, _, rfl, _, _, rfl, rfl, ?_⟩
      have sT := s2.trans (same_new (o := .tup [.str z, .int gv]) nT)
      have faT := fa.keep (same_new (o := .tup [.str z, .int gv]) nT)
      generalize upd H' T _ = HT at *
      refine ⟨_, rfl, rfl, fun x dx2 nx ndx2 nex => kmk1 nx ndx2 nex (ok_G g1'.1 g1'.2) fun H1 s1 ka => ⟨rfl, ?_⟩⟩
      have fa1 := faT.keep s1
      have sH := sT.trans s1
      obtain ⟨dxf, ef⟩ := id fa1.at_
      have kl : ks.length = i := by
        have := congrArg List.length nk
        rw [List.length_map, List.length_take] at this
        omega
      have nS : NoS ks := fun e he => by
        have m : e.2.1 ∈ ks.map (·.2.1) := List.mem_map_of_mem he
        rw [gk] at m
        obtain ⟨q, _, e2⟩ := List.mem_map.mp m
        rw [← e2]; rfl
      have zn : z ∉ ks.map (·.1) := by
        rw [nk]
        intro m
        obtain ⟨j, hj⟩ := List.getElem?_of_mem m
        rw [List.getElem?_take] at hj
        split at hj
        · obtain ⟨h1, q1⟩ := List.getElem?_eq_some_iff.mp hj
          obtain ⟨h2, q2⟩ := List.getElem?_eq_some_iff.mp ez
          have := (List.getElem_inj nd (h₀ := h1) (h₁ := h2)).mp (q1.trans q2.symm)
          omega
        · cases hj
      have an : (ks.any fun o => decide (o.1 = z)) = false := by
        rw [List.any_eq_false]
        intro o ho q
        exact zn (List.mem_map.mpr ⟨o, ho, of_decide_eq_true q⟩)
      have pk : ∀ x', putKs ks z (rG gv) x' = ks ++ [(z, rG gv, x')] := fun x' => by unfold putKs; rw [an]; rfl
      refine ⟨_, rfl, _, rfl, f, dxf, _, rfl, ef, f, d, c, _, _, ks, [], rfl, fa1, by omega, nS.fed, .inr ⟨x, z, rG gv, rfl, rfl, ka, ok_G g1'.1 g1'.2, wz.ok.1, wz.ok.2, .inr ⟨(fun s e => by cases e), .inr ⟨.inr (by omega), .inr ⟨fun x' => nS.put.lg, fun d' x' H2 nd2 nx2 fa2 keep2 => ?_⟩⟩⟩⟩⟩
      rw [pk] at fa2
      refine ⟨rfl, _, _, d', _, rfl, fun q o e => keep2 _ _ (sH _ _ e) (ne_of_none e nf), sH.free nd2, fa2, ?_, ?_⟩
      · rw [List.map_append, nk, List.take_succ, ez]; rfl
      · rw [List.map_append, gk, List.take_succ, eg, List.map_append]; rfl
    · rintro σ H' ⟨v3, v4, d, ks, rfl, s2, dn, fa, nk, gk⟩
      rw [List.length_map, List.take_length] at nk
      rw [List.length_map, lg, List.take_length] at gk
      exact ⟨_, rfl, k f d c ks H' nf dn nc' s2 fa nk gk⟩
end

end K14

namespace K14
open PySem PySem.Spec PyProof.Rows L2 Jg
local macro_rules | `(tactic| walk_at "rd1") => `(tactic| (first
  | refine ⟨_, rfl, ?_⟩
  | refine ⟨_, _, rfl, rfl, ?_⟩
  | refine ⟨_, _, rfl, ?_⟩
  | refine ⟨rfl, ?_⟩
  | (refine ⟨show (0 : Int) < _ by omega, ?_⟩)
  | (refine ⟨Or.inl ⟨by omega, by omega⟩, ?_⟩)
  | (refine ⟨Or.inr ⟨by omega, by omega⟩, ?_⟩)
  | (refine ⟨(⟨by decide, by decide, by decide⟩ : CPow _ _), ?_⟩)
  | refine Or.inl ⟨_, rfl, ?_⟩
  | refine Or.inr ⟨_, rfl, ?_⟩
  | fail "rd"))
local macro_rules | `(tactic| walk_at "rd") => `(tactic| repeat' walk_at "rd1")


/-! the law -/
def gA0 : List V → List V → List V := fun vs zs => vs ++ [.int 0] ++ zs
def spLaw (K : PySem.W.Frag) : Sp := fun vs H Q _ => ∃ (a : Addr) (ns : List Int), vs = [.ref a] ∧ SqL K H a (ns.map V.int) ∧ ns.length ≤ 63 ∧ ∀ H', Q (.bl true) H'
theorem cut_strs (ws : List Str) (n : Nat) (h : n ≤ ws.length) : cutV (ws.map V.str) none (some (n : Int)) = (ws.take n).map V.str := by
  show ((ws.map V.str).drop 0).take (HT.sIx _ _ (some ((n : Nat) : Int)) - 0) = _
  rw [HT.sIx_nat, List.length_map, Nat.min_eq_left h, List.drop_zero, List.map_take]; rfl
theorem shaped_of {d : PyData} (h1 : d.canLay0 = true) (h2 : d.depth ≤ 64) : SeqAt.shaped d = true := Bool.and_eq_true_iff.mpr ⟨h1, decide_eq_true h2⟩
theorem layStr {z : Str} (h : okW z) : (PyData.str z).canLay0 = true := by
  unfold okW at h
  simp [PyData.canLay0, h]
theorem dp_strs {K : PySem.W.Frag} {H : Hp} {a : Addr} {zs : List Str} (h : SqL K H a (zs.map V.str)) : Dp K H (.ref a) (.list (zs.map .str)) := by
  have q : ∀ zs : List Str, DpAll K H (zs.map V.str) (zs.map PyData.str) := by
    intro zs
    induction zs with
    | nil => exact .nil
    | cons z zs ih => exact .cons (.str z) ih
  exact .lst h (q zs)
theorem shaped_strs {zs : List Str} (h : ∀ z ∈ zs, okW z) : SeqAt.shaped (.list (zs.map .str)) = true := by
  have q : ∀ zs : List Str, (∀ z ∈ zs, okW z) → PyData.canLayAll0 (zs.map .str) = true ∧ PyData.depthAll (zs.map .str) = 0 := by
    intro zs
    induction zs with
    | nil => intro _; exact ⟨rfl, rfl⟩
    | cons z zs ih =>
      intro h
      obtain ⟨a, b⟩ := ih fun y hy => h y (List.mem_cons_of_mem _ hy)
      refine ⟨?_, ?_⟩
      · show ((PyData.str z).canLay0 && PyData.canLayAll0 (zs.map .str)) = true
        rw [layStr (h z List.mem_cons_self), a]; rfl
      · show max (PyData.str z).depth (PyData.depthAll (zs.map .str)) = 0
        rw [b]; simp [PyData.depth]
  obtain ⟨a, b⟩ := q zs h
  refine shaped_of a ?_
  show PyData.depthAll (zs.map .str) + 1 ≤ 64
  rw [b]; decide
theorem eqv_self {d : PyData} (h : SeqAt.shaped d = true) : PyData.eqv d d = true := SeqAt.eqv_refl _ (Bool.and_eq_true_iff.mp h).1
theorem once_srt {l : List Str} (nd : l.Nodup) : srtW (onceW l) = srtW l := srtW_congr ((List.perm_ext_iff_of_nodup (onceW_nodup l [] List.nodup_nil) nd).mpr fun _ => onceW_mem)
theorem kd_self : ∀ {tb : Ks} {e : Str × Kd × Addr}, (tb.map (·.1)).Nodup → e ∈ tb → kdOf tb e.1 = some e
  | o :: tb, e, nd, he => by
    rw [List.map_cons, List.nodup_cons] at nd
    unfold kdOf
    rw [List.find?_cons]
    rcases List.mem_cons.mp he with h | h
    · rw [h, decide_eq_true rfl]
    · rw [decide_eq_false fun q => nd.1 (List.mem_map.mpr ⟨e, h, q.symm⟩)]
      exact kd_self nd.2 h
theorem FltAt.keepB {F C : Addr} {H H' : Hp} {f d c p : Addr} {ks : Ks} {cs : List V} (h : FltAt F C H f d c ks cs) (s : ∀ b o, H b = some o → b ≠ p → H' b = some o) (nf : f ≠ p) (nd : d ≠ p) (nc : c ≠ p) (nk : ∀ e ∈ ks, e.2.2 ≠ p) : FltAt F C H' f d c ks cs :=
  let ⟨⟨dx, e⟩, ed, k, cl⟩ := h
  ⟨⟨dx, s _ _ e nf⟩, s _ _ ed nd, ⟨.inl (s _ _ ed nd), fun e he => let ⟨⟨dk, ek⟩, ok⟩ := k.2 e he; ⟨⟨dk, s _ _ ek (nk e he)⟩, ok⟩⟩, s _ _ cl nc⟩
theorem put_names (ks : Ks) (z : Str) (r : Kd) (x : Addr) : (putKs ks z r x).map (·.1) = if ks.any (fun e => decide (e.1 = z)) = true then ks.map (·.1) else ks.map (·.1) ++ [z] := by
  unfold putKs
  split
  · rw [List.map_map]
    refine List.map_congr_left fun e _ => ?_
    show (if e.1 = z then (z, r, x) else e).1 = e.1
    by_cases c : e.1 = z
    · rw [if_pos c]; exact c.symm
    · rw [if_neg c]
  · rw [List.map_append]; rfl

theorem dp_ints {K : PySem.W.Frag} {H : Hp} {a : Addr} {zs : List Int} (h : SqL K H a (zs.map V.int)) : Dp K H (.ref a) (.list (zs.map .int)) := by
  have q : ∀ zs : List Int, DpAll K H (zs.map V.int) (zs.map PyData.int) := by
    intro zs
    induction zs with
    | nil => exact .nil
    | cons z zs ih => exact .cons (.int z) ih
  exact .lst h (q zs)
theorem shaped_ints (zs : List Int) : SeqAt.shaped (.list (zs.map .int)) = true := by
  have q : ∀ zs : List Int, PyData.canLayAll0 (zs.map .int) = true ∧ PyData.depthAll (zs.map .int) = 0 := by
    intro zs
    induction zs with
    | nil => exact ⟨rfl, rfl⟩
    | cons z zs ih =>
      refine ⟨ih.1, ?_⟩
      show max (PyData.int z).depth (PyData.depthAll (zs.map .int)) = 0
      rw [ih.2]; simp [PyData.depth]
  refine shaped_of (q zs).1 ?_
  show PyData.depthAll (zs.map .int) + 1 ≤ 64
  rw [(q zs).2]; decide
theorem ixN_at {n j : Nat} (hj : j < n) : ixN n (j : Int) = some j := by
  unfold ixN
  rw [if_pos (by omega), if_pos (by omega)]; rfl
theorem shaped_nil : SeqAt.shaped (.list []) = true := shaped_ints []
theorem shaped_call {a b c : Str} {i : Int} (h1 : okW a) (h2 : okW b) (h3 : okW c) : SeqAt.shaped (.list [.tuple [.str a, .str b, .str c, .int i]]) = true := by
  unfold okW at h1 h2 h3
  refine shaped_of (by simp [PyData.canLay0, PyData.canLayAll0, h1, h2, h3]) ?_
  show PyData.depthAll [.tuple [.str a, .str b, .str c, .int i]] + 1 ≤ 64
  simp [PyData.depthAll, PyData.depth]
theorem put_set {ks : Ks} (nd : (ks.map (·.1)).Nodup) {j : Nat} {z : Str} (e : (ks.map (·.1))[j]? = some z) (r : Kd) (x : Addr) : putKs ks z r x = ks.set j (z, r, x) := by
  have an : (ks.any fun o => decide (o.1 = z)) = true := by
    obtain ⟨o, ho, q⟩ := List.mem_map.mp (List.mem_of_getElem? e)
    exact List.any_eq_true.mpr ⟨o, ho, decide_eq_true q⟩
  unfold putKs
  rw [an]
  refine List.ext_getElem? fun i => ?_
  show (ks.map _)[i]? = _
  rw [List.getElem?_map, List.getElem?_set]
  by_cases c : j = i
  · subst c
    rw [if_pos rfl]
    rw [List.getElem?_map] at e
    cases h : ks[j]? with
    | none => rw [h] at e; cases e
    | some o =>
      rw [h] at e
      have lt := (List.getElem?_eq_some_iff.mp h).1
      rw [if_pos lt]
      show some (if o.1 = z then (z, r, x) else o) = _
      rw [if_pos (Option.some.inj e)]
  · rw [if_neg c]
    cases h : ks[i]? with
    | none => rfl
    | some o =>
      show some (if o.1 = z then (z, r, x) else o) = some o
      rw [if_neg fun q => c ?_]
      have h1 : (ks.map (·.1))[i]? = some z := by rw [List.getElem?_map, h]; exact congrArg some q
      obtain ⟨a1, b1⟩ := List.getElem?_eq_some_iff.mp e
      obtain ⟨a2, b2⟩ := List.getElem?_eq_some_iff.mp h1
      exact (List.getElem_inj nd (h₀ := a1) (h₁ := a2)).mp (b1.trans b2.symm)
/-! how calls are shown -/
theorem codes_ok {z : Str} (h : PyData.strOk z = true) : ∀ x ∈ z.cps.toList, x < 16 ^ 8 := fun x hx => by
  have h1 : (z.cps.all fun x => decide (x < 0x110000)) = true := h
  rw [← Array.all_toList] at h1
  have h2 := of_decide_eq_true (List.all_eq_true.mp h1 x hx)
  exact Nat.lt_trans h2 (by decide)
theorem codes_wd {z : Str} (h : Wd z) : ∀ x ∈ z.cps.toList, x < 16 ^ 8 := fun x hx => Nat.lt_of_le_of_lt (h.1 x hx).2 (by decide)
theorem sb_int30 {i : Int} (h0 : 0 ≤ i) (h : i ≤ L) : Sb (.int i) 0 0 := by
  have hL := L_eq
  have hb : i.natAbs < 10 ^ 31 := by
    have : i.natAbs ≤ 1000000000000000000000000000000 := by omega
    exact Nat.lt_of_le_of_lt this (by decide +kernel)
  have z := int_text_length_le10 (k := 31) (by decide) hb
  have e : (PyData.int i).shown.length ≤ 100 := by
    show (Str.ofString (toString i)).length ≤ 100
    rw [PySem.ofString_length]
    omega
  refine ⟨?_, by simpa only [PyData.leavesShort, decide_eq_true_eq] using e, Nat.le_refl _, by simp [PyData.depth]⟩
  have l : i.natAbs.log2 < 1920 := Nat.lt_of_lt_of_le (PySem.Flt.log2_lt_of (k := 200) (by decide) (Nat.lt_of_lt_of_le hb (by decide +kernel))) (by decide)
  simp [PyData.showable, l]
def DueD (n : Nat) : Oc → List PyData
  | .inl k => [.str k.1, .str k.2, .bool true]
  | .inr _ => [.str "added", .int n]
theorem shw_due {K : PySem.W.Frag} {H H0 : Hp} {ks : Ks} {n : Nat} {y0 y1 y2 y3 : V} {oc : Oc} {l : Addr} (ca : CaseC K H0 ks n y0 y1 y2 y3 oc) (n6 : n ≤ 6) (e : H l = some (.lst (DueL n oc))) : Shw K H (.ref l) (PyData.list (DueD n oc)).shown := by
  cases oc with
  | inl k =>
    have t := ca.2
    have sb := (SbAll.cons (Sb.str t.kl (codes_ok t.k)) (SbAll.cons (Sb.str t.tl (codes_ok t.t)) (SbAll.cons (Sb.bl true) (SbAll.nil (n := 0))))).list.ask (by decide) (by decide)
    exact .dat (.lst (SqL.of e) (.cons (.str _) (.cons (.str _) (.cons (.bl _) .nil)))) sb.1 sb.2.1 sb.2.2
  | inr r =>
    have sb := (SbAll.cons (Sb.str (z := "added") (n := 5) (by decide +kernel) (by decide +kernel)) (SbAll.cons (Sb.int (i := (n : Int)) (by omega)) (SbAll.nil (n := 0)))).list.ask (by decide) (by decide)
    exact .dat (.lst (SqL.of e) (.cons (.str _) (.cons (.int _) .nil))) sb.1 sb.2.1 sb.2.2
def rcA (rc : List Call) : Oc → List Call
  | .inl _ => rc
  | .inr r => rc ++ [r]
def callsD (rc : List Call) : PyData := .list (rc.map Call.d)
theorem dp_calls {K : PySem.W.Frag} {H : Hp} : ∀ {cs : List Addr} {rc : List Call}, Paired (fun q r => H q = some (.tup (Call.t r))) cs rc → DpAll K H (cs.map V.ref) (rc.map Call.d)
  | _, _, .nil => .nil
  | _, _, .cons a r => .cons (.tup (SqT.of a) (.cons (.str _) (.cons (.str _) (.cons (.str _) (.cons (.int _) .nil))))) (dp_calls r)
theorem sb_calls {rc : List Call} (h : ∀ r ∈ rc, r.ok) (l : rc.length ≤ 6) : Sb (callsD rc) 156 2 := by
  have q : ∀ d ∈ rc.map Call.d, Sb d 25 1 := fun d hd => by
    obtain ⟨r, hr, rfl⟩ := List.mem_map.mp hd
    obtain ⟨a, b, c, i0, i1⟩ := h r hr
    exact (SbAll.cons (Sb.str a.2.2 (codes_wd a)) (SbAll.cons (Sb.str b.2.2 (codes_wd b)) (SbAll.cons (Sb.str c.2.2 (codes_wd c)) (SbAll.cons (sb_int30 i0 i1) (SbAll.nil (n := 0)))))).tuple
  exact (SbAll.of q).list.mono (by rw [List.length_map]; omega) (Nat.le_refl _)
theorem shw_calls {K : PySem.W.Frag} {H : Hp} {cs : List Addr} {rc : List Call} {l : Addr} (h : ∀ r ∈ rc, r.ok) (n : rc.length ≤ 6) (e : H l = some (.lst (cs.map V.ref))) (pc : Paired (fun q r => H q = some (.tup (Call.t r))) cs rc) : Shw K H (.ref l) (callsD rc).shown := by
  have sb := (sb_calls h n).ask (by decide) (by decide)
  exact .dat (.lst (SqL.of e) (dp_calls pc)) sb.1 sb.2.1 sb.2.2
theorem pr_imp {α β : Type} {F G : α → β → Prop} (h : ∀ a b, F a b → G a b) : ∀ {xs : List α} {ys : List β}, Paired F xs ys → Paired G xs ys
  | _, _, .nil => .nil
  | _, _, .cons a r => .cons (h _ _ a) (pr_imp h r)
theorem pr_len {α β : Type} {F : α → β → Prop} : ∀ {xs : List α} {ys : List β}, Paired F xs ys → xs.length = ys.length
  | _, _, .nil => rfl
  | _, _, .cons a r => by rw [List.length_cons, List.length_cons, pr_len r]
theorem kat_not {C FC : Addr} {H : Hp} {q : Addr} {r : Kd} {d c dx : Addr} (k : KAt C H q r) : H q ≠ some (.ins FC dx (ff d c)) := fun e => by
  obtain ⟨dk, ek⟩ := k
  rw [ek] at e
  injection e with e
  injection e with q1 q2 q3
  have q4 := congrArg List.length q3
  cases q4
theorem ne_ty {H : Hp} {q p : Addr} {o o' : HO} (h : H q = some o) (h' : H p = some o') (n : o ≠ o') : q ≠ p := fun e => by
  rw [e, h'] at h
  exact n (Option.some.inj h).symm
/-- what stays, seen without what changes -/
structure VW (FC C : Addr) (W : Hp) (lw ln : Addr) (ws ns : List Str) (f2 d2 c2 : Addr) (ks2 : Ks) (d : Addr) (ks : Ks) (cs ts : List Addr) (rc rt : List Call) : Prop where
  ew : W lw = some (.lst (ws.map V.str))
  en : W ln = some (.lst (ns.map V.str))
  g2 : FltAt FC C W f2 d2 c2 ks2 []
  ed : W d = some (.dK (kvs ks))
  kd : ∀ e ∈ ks, KAt C W e.2.2 e.2.1 ∧ KOk e.2.1
  pc : Paired (fun q r => W q = some (.tup (Call.t r))) cs rc
  pt : Paired (fun q r => W q = some (.tup (Call.t r))) ts rt
section
variable {FC C p f c tb sp lw ln f2 d2 c2 d t : Addr} {W W' H H' H2 : Hp} {ws ns : List Str} {ks2 ks : Ks} {cs ts : List Addr} {rc rt : List Call} {gs : List Int}
theorem VW.keep (h : VW FC C W lw ln ws ns f2 d2 c2 ks2 d ks cs ts rc rt) (s : Same W W') : VW FC C W' lw ln ws ns f2 d2 c2 ks2 d ks cs ts rc rt :=
  ⟨s _ _ h.ew, s _ _ h.en, h.g2.keep s, s _ _ h.ed, fun e he => ⟨same_kat s (h.kd e he).1, (h.kd e he).2⟩, pr_imp (fun _ _ q => s _ _ q) h.pc, pr_imp (fun _ _ q => s _ _ q) h.pt⟩
/-- the state of the law's loop: at p, f, c, tb, sp stands what changes -/
structure LS (FC C p f c tb sp : Addr) (H' : Hp) (lw ln : Addr) (ws ns : List Str) (f2 d2 c2 : Addr) (ks2 : Ks) (d : Addr) (ks : Ks) (cs ts : List Addr) (rc rt : List Call) (gs : List Int) : Prop where
  st : StA H' p
  ef : ∃ dx, H' f = some (.ins FC dx (ff d c))
  ec : H' c = some (.lst (cs.map V.ref))
  et : H' tb = some (.lst (ts.map V.ref))
  es : H' sp = some (.lst (gs.map V.int))
  vw : VW FC C (hid [p, f, c, tb, sp] H') lw ln ws ns f2 d2 c2 ks2 d ks cs ts rc rt
theorem in5 {q : Addr} : q ∈ [p, f, c, tb, sp] ↔ q = p ∨ q = f ∨ q = c ∨ q = tb ∨ q = sp := by simp
theorem LS.some_ (h : LS FC C p f c tb sp H' lw ln ws ns f2 d2 c2 ks2 d ks cs ts rc rt gs) {q : Addr} (m : q ∈ [p, f, c, tb, sp]) : ∃ o, H' q = some o := by
  obtain ⟨a, b, e, _⟩ := h.st
  obtain ⟨dx, ef⟩ := h.ef
  rcases in5.mp m with r | r | r | r | r <;> rw [r]
  · exact ⟨_, e⟩
  · exact ⟨_, ef⟩
  · exact ⟨_, h.ec⟩
  · exact ⟨_, h.et⟩
  · exact ⟨_, h.es⟩
theorem LS.fresh (h : LS FC C p f c tb sp H' lw ln ws ns f2 d2 c2 ks2 d ks cs ts rc rt gs) {q : Addr} (n : H' q = none) : q ∉ [p, f, c, tb, sp] := fun m => by
  obtain ⟨o, e⟩ := h.some_ m
  rw [n] at e; cases e
theorem LS.keep (h : LS FC C p f c tb sp H' lw ln ws ns f2 d2 c2 ks2 d ks cs ts rc rt gs) (s : Same H' H2) : LS FC C p f c tb sp H2 lw ln ws ns f2 d2 c2 ks2 d ks cs ts rc rt gs := by
  obtain ⟨a, b, e, q⟩ := h.st
  obtain ⟨dx, ef⟩ := h.ef
  exact ⟨⟨a, b, s _ _ e, q⟩, ⟨dx, s _ _ ef⟩, s _ _ h.ec, s _ _ h.et, s _ _ h.es, h.vw.keep (hid_step fun q o e _ => s q o e)⟩
/-- but for one of them -/
theorem LS.one (h : LS FC C p f c tb sp H' lw ln ws ns f2 d2 c2 ks2 d ks cs ts rc rt gs) {x : Addr} (m : x ∈ [p, f, c, tb, sp]) (s : SameB x H' H2) : Same (hid [p, f, c, tb, sp] H') (hid [p, f, c, tb, sp] H2) := hid_step fun q o e n => s q o e fun z => n (by rw [z]; exact m)
theorem LS.draw (h : LS FC C p f c tb sp H' lw ln ws ns f2 d2 c2 ks2 d ks cs ts rc rt gs) (nd : [p, f, c, tb, sp].Nodup) (s : SameB p H' H2) (st : StA H2 p) : LS FC C p f c tb sp H2 lw ln ws ns f2 d2 c2 ks2 d ks cs ts rc rt gs := by
  have n := (List.nodup_cons.mp nd).1
  obtain ⟨dx, ef⟩ := h.ef
  have k : ∀ x ∈ [f, c, tb, sp], x ≠ p := fun x m z => n (z ▸ m)
  exact ⟨st, ⟨dx, s _ _ ef (k f (by simp))⟩, s _ _ h.ec (k c (by simp)), s _ _ h.et (k tb (by simp)), s _ _ h.es (k sp (by simp)), h.vw.keep (h.one (x := p) (by simp) s)⟩
theorem LS.flt (h : LS FC C p f c tb sp H' lw ln ws ns f2 d2 c2 ks2 d ks cs ts rc rt gs) : FltAt FC C H' f d c ks (cs.map V.ref) :=
  ⟨h.ef, hid_same _ _ h.vw.ed, ⟨.inl (hid_same _ _ h.vw.ed), fun e he => ⟨same_kat hid_same (h.vw.kd e he).1, (h.vw.kd e he).2⟩⟩, h.ec⟩
theorem LS.flt2 (h : LS FC C p f c tb sp H' lw ln ws ns f2 d2 c2 ks2 d ks cs ts rc rt gs) : FltAt FC C H' f2 d2 c2 ks2 [] := h.vw.g2.keep hid_same
theorem LS.call (h : LS FC C p f c tb sp H' lw ln ws ns f2 d2 c2 ks2 d ks cs ts rc rt gs) (nd : [p, f, c, tb, sp].Nodup) {r : Call} (s : SameB c H' H2) (nt : H' t = none) (et : H2 t = some (.tup r.t)) (ec : H2 c = some (.lst (cs.map V.ref ++ [.ref t]))) : LS FC C p f c tb sp H2 lw ln ws ns f2 d2 c2 ks2 d ks (cs ++ [t]) ts (rc ++ [r]) rt gs := by
  have tn := h.fresh nt
  obtain ⟨a, b, e, q⟩ := h.st
  obtain ⟨dx, ef⟩ := h.ef
  simp only [List.nodup_cons, List.mem_cons, List.not_mem_nil, or_false, not_or] at nd
  have v := h.vw.keep (h.one (x := c) (by simp) s)
  refine ⟨⟨a, b, s _ _ e (fun z => nd.1.2.1 z), q⟩, ⟨dx, s _ _ ef (fun z => nd.2.1.1 z)⟩, by rw [ec, List.map_append]; rfl, s _ _ h.et (fun z => nd.2.2.1.1 z.symm), s _ _ h.es (fun z => nd.2.2.1.2 z.symm), ⟨v.ew, v.en, v.g2, v.ed, v.kd, Paired.snoc v.pc (hid_in et tn), v.pt⟩⟩
theorem LS.tab (h : LS FC C p f c tb sp H' lw ln ws ns f2 d2 c2 ks2 d ks cs ts rc rt gs) (nd : [p, f, c, tb, sp].Nodup) {r : Call} (tn : t ∉ [p, f, c, tb, sp]) (et : H' t = some (.tup r.t)) : LS FC C p f c tb sp (upd H' tb (.lst (ts.map V.ref ++ [.ref t]))) lw ln ws ns f2 d2 c2 ks2 d ks cs (ts ++ [t]) rc (rt ++ [r]) gs := by
  obtain ⟨a, b, e, q⟩ := h.st
  obtain ⟨dx, ef⟩ := h.ef
  simp only [List.nodup_cons, List.mem_cons, List.not_mem_nil, or_false, not_or] at nd
  have s : SameB tb H' (upd H' tb (.lst (ts.map V.ref ++ [.ref t]))) := SameB.mut (SameB.refl tb H')
  have v := h.vw.keep (h.one (x := tb) (by simp) s)
  have tt : t ≠ tb := fun z => tn (by rw [z]; simp)
  refine ⟨⟨a, b, s _ _ e (fun z => nd.1.2.2.1 z), q⟩, ⟨dx, s _ _ ef (fun z => nd.2.1.2.1 z)⟩, s _ _ h.ec (fun z => nd.2.2.1.1 z), by rw [upd_same, List.map_append]; rfl, s _ _ h.es (fun z => nd.2.2.2.1 z.symm), ⟨v.ew, v.en, v.g2, v.ed, v.kd, v.pc, Paired.snoc v.pt (hid_in (s _ _ et tt) tn)⟩⟩
theorem LS.span (h : LS FC C p f c tb sp H' lw ln ws ns f2 d2 c2 ks2 d ks cs ts rc rt gs) (nd : [p, f, c, tb, sp].Nodup) {gs' : List Int} : LS FC C p f c tb sp (upd H' sp (.lst (gs'.map V.int))) lw ln ws ns f2 d2 c2 ks2 d ks cs ts rc rt gs' := by
  obtain ⟨a, b, e, q⟩ := h.st
  obtain ⟨dx, ef⟩ := h.ef
  simp only [List.nodup_cons, List.mem_cons, List.not_mem_nil, or_false, not_or] at nd
  have s : SameB sp H' (upd H' sp (.lst (gs'.map V.int))) := SameB.mut (SameB.refl sp H')
  exact ⟨⟨a, b, s _ _ e (fun z => nd.1.2.2.2 z), q⟩, ⟨dx, s _ _ ef (fun z => nd.2.1.2.2 z)⟩, s _ _ h.ec (fun z => nd.2.2.1.2 z), s _ _ h.et (fun z => nd.2.2.2.1 z), upd_same, h.vw.keep (h.one (x := sp) (by simp) s)⟩
theorem LS.fleet (h : LS FC C p f c tb sp H' lw ln ws ns f2 d2 c2 ks2 d ks cs ts rc rt gs) (nd : [p, f, c, tb, sp].Nodup) {d' : Addr} {ks' : Ks} (nd' : H' d' = none) (s : SameB f H' H2) (fa : FltAt FC C H2 f d' c ks' (cs.map V.ref)) (na : ∀ e ∈ ks', e.2.2 ∉ [p, f, c, tb, sp]) : LS FC C p f c tb sp H2 lw ln ws ns f2 d2 c2 ks2 d' ks' cs ts rc rt gs := by
  have dn := h.fresh nd'
  obtain ⟨a, b, e, q⟩ := h.st
  simp only [List.nodup_cons, List.mem_cons, List.not_mem_nil, or_false, not_or] at nd
  have v := h.vw.keep (h.one (x := f) (by simp) s)
  refine ⟨⟨a, b, s _ _ e (fun z => nd.1.1 z), q⟩, fa.at_, fa.cal, s _ _ h.et (fun z => nd.2.1.2.1 z.symm), s _ _ h.es (fun z => nd.2.1.2.2 z.symm), ⟨v.ew, v.en, v.g2, hid_in fa.ed dn, fun e he => ?_, v.pc, v.pt⟩⟩
  obtain ⟨⟨dk, ek⟩, ok⟩ := fa.kds.2 e he
  exact ⟨⟨dk, hid_in ek (na e he)⟩, ok⟩
end
section
variable {P : Program} {w : World} {K : PySem.W.Frag} {mg : Str → Option Value} {base : Heap} {C CA CI CU CM CO FC : Addr}
abbrev s_law : Stmt := top 33
theorem sc_law : FnScope ["script", "k", "stream", "spans", "turn", "words", "names", "fleet", "other", "table", "due", "told", "name", "row", "odds", "at"] ["script"] (defScope s_law) := ⟨rfl, rfl, rfl, by decide +kernel, rfl, by decide +kernel, by decide +kernel⟩
theorem body_law (T : Txt K mg C) (TF : FTx K mg FC) (M_Kind1 : MakW P w K mg base (L2.CX P w) 5 "Kind" C ["gap"] g1 (spKInit K C CI)) (M_set : Met P w K mg base (L2.CX P w) 8 FC "__setitem__" (spSet K FC C CI CU CO)) (M_get : Met P w K mg base (L2.CX P w) 8 FC "__getitem__" (spGet K FC C CU)) (M_names : Met P w K mg base CX0 1 FC "names" (spNames FC C)) (M_calls : Met P w K mg base CX0 1 FC "calls" (spCalls FC C)) (M_add0 : MetW P w K mg base (L2.CX P w) 5 FC "add_call" 4 [] gA0 (spAdd K FC C CA CU CM CO)) (G_gap : Prp P w K mg base CX0 1 C "gap" (spPrp C fun r => .int r.g))
    (G_law_stream : Cal P w K mg base CX0 1 "_law_stream" (spStream K)) (G_law_draw : Cal P w K mg base CX0 1 "_law_draw" spDraw) (G_law_words : Cal P w K mg base CX0 3 "_law_words" spWords) (G_law_fleet_of : Cal P w K mg base CX0 9 "_law_fleet_of" (spFleetOf K FC C)) (G_law_drawn_row : Cal P w K mg base CX0 3 "_law_drawn_row" (spDrawn K))
    (G_law_wrong : CalG P w K mg base CX0 1 "_law_wrong" (spWrong K)) (G_law_add : CalG P w K mg base CX0 6 "_law_add" (spLAdd K FC C))
    (f0 : Addr) (cdv : Value) (A : Around) (outer : List Env) (s : Shared) (H : Hp) (vs : List V) (Q : VK) (E : XK) (g : (cxOf CX0 P w K mg base ["script", "k", "stream", "spans", "turn", "words", "names", "fleet", "other", "table", "due", "told", "name", "row", "odds", "at"] "law" (defScope s_law) f0 cdv A outer s H E).nox.A.guards = some []) (hr : Room 11 (A.deeper (envOfC "law" (defScope s_law) s.heap.objs.size f0 cdv))) (h : spLaw K vs H Q E) :
    ∃ t, PSs (cxOf CX0 P w K mg base ["script", "k", "stream", "spans", "turn", "words", "names", "fleet", "other", "table", "due", "told", "name", "row", "odds", "at"] "law" (defScope s_law) f0 cdv A outer s H E).nox (defBody s_law) t ∧ t { nx := fun _ H' => Q .non H', rt := Q } (start ["script", "k", "stream", "spans", "turn", "words", "names", "fleet", "other", "table", "due", "told", "name", "row", "odds", "at"] vs) H := by
  obtain ⟨a, ns, rfl, hS, hl, k⟩ := h
  have hu : (A.deeper (envOfC "law" (defScope s_law) s.heap.objs.size f0 cdv)).units + 64 < cLine := hr.units
  have hL := L_eq
  refine ⟨_, (pss_cons (ps_for PassesOwn.never rfl (pi_range1 (by rfl) T.b_range (pa_cons (pe_callB (call_max2 rfl) (by rfl) T.b_max (by decide +kernel) (pa_cons pe_int (pa_cons (pe_callB (call_min2 rfl) (by rfl) T.b_min (by decide +kernel) (pa_cons pe_int (pa_cons (pe_callB call_len_seq (by rfl) T.b_len (by decide +kernel) (pa_cons (pv 0) pa_nil)) pa_nil))) pa_nil))) pa_nil)) (pg_name (i := 1) sc_law.nd rfl (Or.inl rfl)) (pss_cons (ps_set (i := 2) sc_law.nd rfl (Or.inr rfl) (pe_c G_law_stream hr (by decide) rfl (pa_cons (pv 0) (pa_cons (pv 1) pa_nil))))
      (pss_cons (ps_par (i := 5) (j := 6) (by rfl) sc_law.nd rfl rfl (by decide) rfl rfl (pa_cons (pe_c G_law_words hr (by decide) rfl (pa_cons (pv 2) (pa_cons pe_int pa_nil))) (pa_cons (pe_slice sl_list (pe_c G_law_words hr (by decide) rfl (pa_cons (pv 2) (pa_cons pe_int pa_nil))) po_none (po_some (pe_op op_add pe_int (pe_c G_law_draw hr (by decide) rfl (pa_cons (pv 2) (pa_cons pe_int pa_nil)))))) pa_nil)) (by rfl))
      (pss_cons (ps_setLc (i := 3) (own := [("name", 12)]) (g := gName 12) (by rfl) sc_law.nd rfl rfl (sw_true rfl rfl rfl (by decide +kernel)) (pi_list (pv 6)) (blkOk_by (own := [("name", 12)]) (N := ["script", "k", "stream", "spans", "turn", "words", "names", "fleet", "other", "table", "due", "told", "name", "row", "odds", "at"]) (sc := defScope s_law) (by decide +kernel)) (fun _ _ _ _ _ => pg_name (i := 12) sc_law.nd rfl (Or.inl rfl)) (fun _ _ _ _ _ => pts_nil) (fun _ _ _ _ _ => (pe_op op_add pe_int (pe_c G_law_draw hr (by decide) rfl (pa_cons (pv 2) (pa_cons pe_int pa_nil))))))
      (pss_cons (ps_asg (pe_tup (pa_cons (pe_c G_law_fleet_of hr (by decide) rfl (pa_cons (pv 6) (pa_cons (pv 3) pa_nil))) (pa_cons (pe_c G_law_fleet_of hr (by decide) rfl (pa_cons (pv 6) (pa_cons (pv 3) pa_nil))) (pa_cons (pe_lst pa_nil) pa_nil)))) (pg_tup rfl (pgs_cons (pg_name (i := 7) sc_law.nd rfl (Or.inr rfl)) (pgs_cons (pg_name (i := 8) sc_law.nd rfl (Or.inl rfl)) (pgs_cons (pg_name (i := 9) sc_law.nd rfl (Or.inl rfl)) pgs_nil)))))
      (pss_cons (ps_for PassesOwn.never rfl (pi_range1 (by rfl) T.b_range (pa_cons pe_int pa_nil)) (pg_name (i := 4) sc_law.nd rfl (Or.inl rfl)) (pss_cons (ps_asg (pe_c G_law_drawn_row hr (by decide) rfl (pa_cons (pv 2) (pa_cons (pv 5) (pa_cons (pv 6) pa_nil)))) (pg_lst rfl (pgs_cons (pg_name (i := 13) sc_law.nd rfl (Or.inl rfl)) (pgs_cons (pg_name (i := 14) sc_law.nd rfl (Or.inl rfl)) pgs_nil))))
      (pss_cons (ps_set (i := 10) sc_law.nd rfl (Or.inl rfl) (pe_cG G_law_wrong g hr (by decide) rfl (pa_cons (pv 13) (pa_cons (pv 14) (pa_cons (pv 6) (pa_cons (pe_callB call_len_seq (by rfl) T.b_len (by decide +kernel) (pa_cons (pv 9) pa_nil)) pa_nil))))))
      (pss_cons (ps_if (pt_cmpR op_ne (pe_callB (call_shw g hu) (by rfl) T.b_repr (by decide +kernel) (pa_cons (pe_cG G_law_add g hr (by decide) rfl (pa_cons (pv 7) (pa_cons (pv 13) pa_nil))) pa_nil)) (pe_callB (call_shw g hu) (by rfl) T.b_repr (by decide +kernel) (pa_cons (pv 10) pa_nil)) (nomark _)) (pss_one (ps_ret pe_bl)) pss_nil)
      (C8.pss_cut (ps_if (pt_cmpR op_eq (pe_ix (r := rIxL K) ix_list (pv 10) pe_int (fun _ _ => rfl)) pe_str (nomark _)) (pss_one (ps_expr (pe_bm F.plainAttrs_list F.slot_list_append F.type_list_append mt_append (pv 9) (pa_cons (pe_callTy call_tuple_of (by rfl) T.b_tuple (by decide +kernel) (pa_cons (pv 13) pa_nil)) pa_nil)))) pss_nil)
      (pss_cons (ps_set (i := 11) sc_law.nd rfl (Or.inl rfl) (pe_mz M_calls TF.cl hr (by decide) (pv 7)))
      (pss_cons (ps_if (PW.pt (pw_or (pt_cmpR op_ne (pe_callB (call_shw g hu) (by rfl) T.b_repr (by decide +kernel) (pa_cons (pv 11) pa_nil)) (pe_callB (call_shw g hu) (by rfl) T.b_repr (by decide +kernel) (pa_cons (pv 9) pa_nil)) (nomark _)) (pw_or (pt_cmpR (op_neD hu) (pe_mz M_calls TF.cl hr (by decide) (pv 8)) (pe_lst pa_nil) (nomark _)) (pw_or1 (pt_cmpR (op_neD hu) (pe_mz M_names TF.cl hr (by decide) (pv 7)) (pe_callB (id := "sorted") (r := rSortedS K) cr_sortedS (by rfl) T.b_sorted (by decide +kernel) (pa_cons (pv 6) pa_nil)) (nomark _)))))) (pss_one (ps_ret pe_bl)) pss_nil)
      (pss_cons (ps_expr (pe_bm F.plainAttrs_list F.slot_list_append F.type_list_append mt_append (pv 11) (pa_cons pe_non pa_nil)))
      (C8.pss_cut (ps_if (pt_cmpR op_eq (pe_c G_law_draw hr (by decide) rfl (pa_cons (pv 2) (pa_cons pe_int pa_nil))) pe_int (nomark _)) (pss_cons (ps_set (i := 15) sc_law.nd rfl (Or.inl rfl) (pe_c G_law_draw hr (by decide) rfl (pa_cons (pv 2) (pa_cons (pe_callB call_len_seq (by rfl) T.b_len (by decide +kernel) (pa_cons (pv 6) pa_nil)) pa_nil))))
      (pss_cons (ps_asg (pe_op op_add (pe_ix (r := rIxL K) ix_list (pv 3) (pv 15) (fun _ _ => rfl)) pe_int) (pg_sub (pv 3) (pv 15) set_list))
      (pss_one (ps_asg (pe_mkKS M_Kind1 takes0 hr (by decide) rfl (pk_cons (pe_ix (r := rIxL K) ix_list (pv 3) (pv 15) (fun _ _ => rfl)) pk_nil)) (pg_subO M_set TF.ns takes0 hr (by decide) (pv 7) (pe_ix (r := rIxL K) ix_list (pv 6) (pv 15) (fun _ _ => rfl))))))) pss_nil)
      (pss_one (ps_if (PW.pt (pw_or (pt_cmpR op_ne (pe_callB (call_shw g hu) (by rfl) T.b_repr (by decide +kernel) (pa_cons (pe_mz M_calls TF.cl hr (by decide) (pv 7)) pa_nil)) (pe_callB (call_shw g hu) (by rfl) T.b_repr (by decide +kernel) (pa_cons (pv 9) pa_nil)) (nomark _)) (pw_or1 (pt_cmpR (op_neD hu) (pe_lc (own := [("name", 12)]) (g := gName 12) (by rfl) sc_law.nd (pi_list (pv 6)) (blkOk_by (own := [("name", 12)]) (N := ["script", "k", "stream", "spans", "turn", "words", "names", "fleet", "other", "table", "due", "told", "name", "row", "odds", "at"]) (sc := defScope s_law) (by decide +kernel)) (fun _ _ _ _ _ => pg_name (i := 12) sc_law.nd rfl (Or.inl rfl)) (fun _ _ _ _ _ => pts_nil) (fun _ _ _ _ _ => (pe_p G_gap T.cl hr (by decide) (pe_ixO M_get TF.fn takes0 hr (by decide) (pv 7) (pv 12) (fun _ _ => rfl))))) (pv 3) (nomark _))))) (pss_one (ps_ret pe_bl)) pss_nil)))))))))))
      (pss_cons (ps_if (pt_cmpR op_ne (pe_mKS M_add0 TF.cl takes0 hr (by decide) (pv 8) (pa_cons (pe_ix (r := rIxL K) ix_list (pv 5) pe_int (fun _ _ => rfl)) (pa_cons (pe_ix (r := rIxL K) ix_list (pv 6) pe_int (fun _ _ => rfl)) (pa_cons (pe_ix (r := rIxL K) ix_list (pv 6) (pe_un un_neg pe_int) (fun _ _ => rfl)) pa_nil))) pk_nil) pe_int (nomark _)) (pss_one (ps_ret pe_bl)) pss_nil)
      (pss_one (ps_if (PW.pt (pw_or (pt_cmpR (op_neD hu) (pe_mz M_calls TF.cl hr (by decide) (pv 8)) (pe_lst (pa_cons (pe_tup (pa_cons (pe_ix (r := rIxL K) ix_list (pv 5) pe_int (fun _ _ => rfl)) (pa_cons (pe_ix (r := rIxL K) ix_list (pv 6) pe_int (fun _ _ => rfl)) (pa_cons (pe_ix (r := rIxL K) ix_list (pv 6) (pe_un un_neg pe_int) (fun _ _ => rfl)) (pa_cons pe_int pa_nil))))) pa_nil)) (nomark _)) (pw_or1 (pt_cmpR op_ne (pe_callB (call_shw g hu) (by rfl) T.b_repr (by decide +kernel) (pa_cons (pe_mz M_calls TF.cl hr (by decide) (pv 7)) pa_nil)) (pe_callB (call_shw g hu) (by rfl) T.b_repr (by decide +kernel) (pa_cons (pv 9) pa_nil)) (nomark _))))) (pss_one (ps_ret pe_bl)) pss_nil)))))))))
      (pss_one (ps_ret pe_bl))), ?_⟩
  refine ⟨_, rfl, a, _, rfl, .inl hS, _, _, rfl, _, _, rfl, _, rfl, by split <;> split <;> omega, by rw [List.length_map]; split <;> split <;> omega, ?_⟩
  have tn : ∀ i : Nat, i < (if (if ((ns.map V.int).length : Int) < 10 then ((ns.map V.int).length : Int) else 10) > 1 then (if ((ns.map V.int).length : Int) < 10 then ((ns.map V.int).length : Int) else 10) else 1).toNat → i ≤ 1000 := by
    intro i hi
    rw [List.length_map] at hi
    split at hi <;> split at hi <;> omega
  refine for_range (lo := 0) (fun i sg H' => ∃ v1 v2 v3 v4 v5 v6 v7 v8 v9 v10 v11 v12 v13 v14 v15 : Option V, sg = [some (.ref a), v1, v2, v3, v4, v5, v6, v7, v8, v9, v10, v11, v12, v13, v14, v15] ∧ Same H H') ⟨_, _, _, _, _, _, _, _, _, _, _, _, _, _, _, rfl, .refl H⟩ ?_ ?_
  · rintro i sg H1 hi ⟨v1, v2, v3, v4, v5, v6, v7, v8, v9, v10, v11, v12, v13, v14, v15, rfl, s1⟩
    have hk := tn i hi
    clear tn hi
    have ei : (0 : Int) + (i : Nat) = ((i : Nat) : Int) := by omega
    rw [ei]
    refine ⟨_, rfl, _, rfl, a, ns, i, rfl, s1.seq hS, hk, fun p x y np hx => ?_⟩
    have sA : Same H1 (upd H1 p (.lst [.int x, .int y])) := same_new np
    refine ⟨_, rfl, p, 3, rfl, by decide, by decide, ⟨x, y, upd_same, hx⟩, fun lw ws H2 nlw lwp wl ww _ ew st2 sb2 => ?_⟩
    refine ⟨_, rfl, p, 5, rfl, by decide, by decide, st2, fun l5 w5 H3 nl5 l5p wl5 ww5 nd5 e5 st3 sb3 => ?_⟩
    have B3 := sb2.trans sb3
    have ew3 := sb3 _ _ ew lwp
    obtain ⟨xa, xb, xe, xh⟩ := id st3
    refine ⟨_, rfl, p, xa, xb, _, rfl, xe, xh, (by decide), (by decide), fun v a' b' v0 v1 ha' => ?_⟩
    have sb4 : SameB p H3 (upd H3 p (.lst [.int a', .int b'])) := SameB.mut (SameB.refl p H3)
    have st4 : StA (upd H3 p (.lst [.int a', .int b'])) p := ⟨a', b', upd_same, ha'⟩
    generalize upd H3 p (.lst [.int a', .int b']) = H4 at *
    clear xe xh ha'
    have B4 := B3.trans sb4
    have ew4 := sb4 _ _ ew3 lwp
    have e54 := sb4 _ _ e5 l5p
    have wl3 : ws.length = 3 := wl
    have wl5' : w5.length = 5 := wl5
    obtain ⟨m, hm, m1, m5⟩ : ∃ m : Nat, (1 : Int) + v = m ∧ 1 ≤ m ∧ m ≤ 5 := ⟨(1 + v).toNat, by omega, by omega, by omega⟩
    refine ⟨_, _, rfl, rfl, _, rfl, l5, _, rfl, SqL.of e54, fun ln nln => ⟨_, _, rfl, ?_⟩⟩
    have c5 : cutV (w5.map V.str) none (some (1 + v)) = (w5.take m).map V.str := by
      rw [hm]; exact cut_strs w5 m (by omega)
    rw [c5]
    have nl : (w5.take m).length = m := by rw [List.length_take]; omega
    have nd : (w5.take m).Nodup := nd5.sublist (List.take_sublist _ _)
    have nw : ∀ z ∈ w5.take m, Wd z := fun z hz => ww5 z (List.mem_of_mem_take hz)
    have lnp := st4.ne nln
    have B5 := B4.new (o := .lst ((w5.take m).map V.str)) nln
    have st5 := st4.new (o := .lst ((w5.take m).map V.str)) nln
    have ew5 := (same_new (o := .lst ((w5.take m).map V.str)) nln) _ _ ew4
    have en5 : upd H4 ln (.lst ((w5.take m).map V.str)) ln = some (.lst ((w5.take m).map V.str)) := upd_same
    generalize upd H4 ln _ = H5 at *
    generalize w5.take m = nms at *
    clear c5 B3 B4 ew ew3 ew4 e5 e54 sb2 sb3 sb4 st2 st3 st4 nln nl5 l5p wl5 ww5 nd5 wl5' wl hm v0 v1 nlw
    refine ⟨_, rfl, ln, rfl, ⟨_, SqL.of en5⟩, fun D nD => lc_list (K := K) (a := ln) (xs := nms.map V.str) (fun j H' => ∃ gs : List Int, H' D = some (.lst (gs.map V.int)) ∧ gs.length = j ∧ (∀ g ∈ gs, 1 ≤ g ∧ g ≤ 9) ∧ D ≠ p ∧ StA H' p ∧ SameB p H5 H') ⟨[], upd_same, rfl, (fun g h => nomatch h), st5.ne nD, st5.new nD, SameB.of (same_new nD)⟩ ?_ ?_ ?_⟩
    · rintro j H' _ ⟨gs, _, _, _, _, _, s6⟩
      exact SqL.of (s6 _ _ en5 lnp)
    · rintro j x H' ex ⟨gs, eD, gl, gb, Dp, stx, s6⟩
      refine ⟨rfl, yes_if ?_⟩
      obtain ⟨xa, xb, xe, xh⟩ := id stx
      refine ⟨_, rfl, p, xa, xb, _, rfl, xe, xh, (by decide), (by decide), fun u a' b' u0 u1 ha' => ?_⟩
      have sb6 : SameB p H' (upd H' p (.lst [.int a', .int b'])) := SameB.mut (SameB.refl p H')
      have st6 : StA (upd H' p (.lst [.int a', .int b'])) p := ⟨a', b', upd_same, ha'⟩
      generalize upd H' p (.lst [.int a', .int b']) = H6 at *
      clear xe xh ha'
      refine ⟨_, _, rfl, rfl, _, sb6 _ _ eD Dp, ?_, gs ++ [1 + u], ?_, ?_, ?_, Dp, ?_, ?_⟩
      · have := (List.getElem?_eq_some_iff.mp ex).1
        rw [List.length_map] at this
        rw [List.length_map, sizeLine_eq]; omega
      · rw [upd_same, List.map_append]; rfl
      · rw [List.length_append, gl]; rfl
      · intro g hg
        rcases List.mem_append.mp hg with q | q
        · exact gb g q
        · rw [List.mem_singleton.mp q]; omega
      · obtain ⟨xa, xb, xe, xh⟩ := st6
        exact ⟨xa, xb, by rw [upd_ne Dp.symm]; exact xe, xh⟩
      · intro q o e n
        have qD : q ≠ D := ne_of_none e nD
        rw [upd_ne qD]; exact (s6.trans sb6) q o e n
    rintro H6 ⟨gs, eD, gl, gb, Dp, st6, sb6⟩
    rw [List.length_map] at gl
    have B6 := B5.trans sb6
    have ew6 := sb6 _ _ ew5 lwp
    have en6 := sb6 _ _ en5 lnp
    have nDb : H5 D = none := nD
    have lwD : lw ≠ D := ne_of_none ew5 nDb
    have lnD : ln ≠ D := ne_of_none en5 nDb
    have nD1 : H1 D = none := by
      cases c1 : H1 D with
      | none => rfl
      | some o => rw [B5 D o (sA _ _ c1) Dp] at nDb; cases nDb
    clear B5 ew5 en5 st5 nD
    refine ⟨_, rfl, _, rfl, ln, D, nms, gs, rfl, en6, eD, by omega, by omega, nd, nw, (fun g hg => ⟨(gb g hg).1, by have := (gb g hg).2; omega⟩), fun f d c ks H7 nf nd7 nc s7 fa kn kg => ?_⟩
    refine ⟨_, rfl, _, rfl, ln, D, nms, gs, rfl, s7 _ _ en6, s7 _ _ eD, by omega, by omega, nd, nw, (fun g hg => ⟨(gb g hg).1, by have := (gb g hg).2; omega⟩), fun f2 d2 c2 ks2 H8 nf2 nd8 nc2 s8 fb kn2 kg2 => ?_⟩
    refine ⟨by show 0 ≤ sizeLine; decide, fun tb ntb => ⟨by show 3 ≤ sizeLine; decide, fun t nt => ⟨t, _, rfl, SqT.of upd_same, rfl, _, _, rfl, _, _, rfl, _, _, rfl, rfl, ?_⟩⟩⟩
    have nc21 : H1 c2 = none := by
      cases c1 : H1 c2 with
      | none => rfl
      | some o => rw [s7 _ _ (B6 c2 o (sA _ _ c1) (ne_of_none c1 np))] at nc2; cases nc2
    have s89 := (same_new (o := .lst []) ntb).trans (same_new (o := .tup [.ref f, .ref f2, .ref tb]) nt)
    have etb : upd (upd H8 tb (.lst [])) t (.tup [.ref f, .ref f2, .ref tb]) tb = some (.lst []) := (same_new nt) _ _ upd_same
    generalize upd (upd H8 tb (.lst [])) t (.tup [.ref f, .ref f2, .ref tb]) = H9 at *
    obtain ⟨xa', xb', xe, xh⟩ := st6
    obtain ⟨dxf, ef⟩ := id fa.at_
    have pf : p ≠ f := ne_of_none xe nf
    have pc : p ≠ c := ne_of_none xe nc
    have ptb : p ≠ tb := ne_of_none (s8 _ _ (s7 _ _ xe)) ntb
    have fc : f ≠ c := ne_ty ef fa.cal (fun q => by cases q)
    have ftb : f ≠ tb := ne_of_none (s8 _ _ ef) ntb
    have fD : f ≠ D := (ne_of_none eD nf).symm
    have ctb : c ≠ tb := ne_of_none (s8 _ _ fa.cal) ntb
    have cD : c ≠ D := (ne_of_none eD nc).symm
    have tbD : tb ≠ D := (ne_of_none (s8 _ _ (s7 _ _ eD)) ntb).symm
    have nd5 : [p, f, c, tb, D].Nodup := by
      simp only [List.nodup_cons, List.mem_cons, List.not_mem_nil, or_false, not_or, not_false_eq_true, and_true, List.nodup_nil]
      exact ⟨⟨pf, pc, ptb, Dp.symm⟩, ⟨fc, ftb, fD⟩, ⟨ctb, cD⟩, tbD⟩
    have nM : ∀ {q : Addr}, q ≠ p → q ≠ f → q ≠ c → q ≠ tb → q ≠ D → q ∉ [p, f, c, tb, D] := fun h1 h2 h3 h4 h5 m => by
      rcases in5.mp m with r | r | r | r | r
      · exact h1 r
      · exact h2 r
      · exact h3 r
      · exact h4 r
      · exact h5 r
    have kM : ∀ {q : Addr} {r : Kd}, KAt C H8 q r → KAt C (hid [p, f, c, tb, D] H9) q r := fun {q r} kq => by
      obtain ⟨dk, ek⟩ := id kq
      refine ⟨dk, hid_in (s89 _ _ ek) (nM (ne_ty ek (s8 _ _ (s7 _ _ xe)) (fun q => by cases q)) (fun z => ?_) (ne_ty ek (s8 _ _ fa.cal) (fun q => by cases q)) (ne_of_none ek ntb) (ne_ty ek (s8 _ _ (s7 _ _ eD)) (fun q => by cases q)))⟩
      exact kat_not (FC := FC) (d := d) (c := c) (dx := dxf) kq (by rw [z]; exact s8 _ _ ef)
    obtain ⟨dx2, ef2⟩ := id fb.at_
    have s69 := s7.trans (s8.trans s89)
    have old6 : ∀ {q : Addr} {o : HO}, H6 q = some o → q ≠ p → q ≠ D → hid [p, f, c, tb, D] H9 q = some o := fun {q o} e n1 n2 => hid_in (s69 _ _ e) (nM n1 (ne_of_none e nf) (ne_of_none e nc) (ne_of_none (s8 _ _ (s7 _ _ e)) ntb) n2)
    have new7 : ∀ {q : Addr} {o : HO}, H7 q = none → H8 q = some o → hid [p, f, c, tb, D] H9 q = some o := fun {q o} n e => hid_in (s89 _ _ e) (nM (ne_of_none (s7 _ _ xe) n).symm (ne_of_none ef n).symm (ne_of_none fa.cal n).symm (ne_of_none e ntb) (ne_of_none (s7 _ _ eD) n).symm)
    have L0 : LS FC C p f c tb D H9 lw ln ws nms f2 d2 c2 ks2 d ks [] [] [] [] gs := by
      refine ⟨⟨xa', xb', s69 _ _ xe, xh⟩, ⟨dxf, s89 _ _ (s8 _ _ ef)⟩, s89 _ _ (s8 _ _ fa.cal), etb, s69 _ _ eD, old6 ew6 lwp lwD, old6 en6 lnp lnD, ⟨⟨dx2, new7 nf2 ef2⟩, new7 nd8 fb.ed, ⟨.inl (new7 nd8 fb.ed), fun e he => ⟨kM (fb.kds.2 e he).1, (fb.kds.2 e he).2⟩⟩, new7 nc2 fb.cal⟩, ?_, fun e he => ⟨kM (same_kat s8 (fa.kds.2 e he).1), (fa.kds.2 e he).2⟩, .nil, .nil⟩
      exact hid_in (s89 _ _ (s8 _ _ fa.ed)) (nM (ne_of_none xe nd7).symm (ne_ty fa.ed ef (fun q => by cases q)) (ne_ty fa.ed fa.cal (fun q => by cases q)) (ne_of_none (s8 _ _ fa.ed) ntb) (ne_of_none eD nd7).symm)
    have s19 : Same H1 H9 := fun q o e => s69 _ _ (B6 q o (sA _ _ e) (ne_of_none e np))
    have nM1 : ∀ q ∈ [p, f, c, tb, D], H1 q = none := fun q m => by
      cases c1 : H1 q with
      | none => rfl
      | some o =>
        exfalso
        have e6 := B6 q o (sA _ _ c1) (ne_of_none c1 np)
        rcases in5.mp m with r | r | r | r | r
        · exact ne_of_none c1 np r
        · exact ne_of_none e6 nf r
        · exact ne_of_none e6 nc r
        · exact ne_of_none (s8 _ _ (s7 _ _ e6)) ntb r
        · rw [r, nD1] at c1; cases c1
    have gb' : ∀ g ∈ gs, 1 ≤ g ∧ g ≤ 9 + ((0 : Nat) : Int) := fun g hg => ⟨(gb g hg).1, by have := (gb g hg).2; omega⟩
    clear kM old6 new7 s69 s89 s7 s8 fa fb xe nf nc nf2 nc2 nd7 nd8 ntb nt etb eD ew6 en6 B6 sb6 ef ef2 pf pc ptb fc ftb fD ctb cD tbD nM lwD lnD gb nDb xh
    refine ⟨8, rfl, by decide, by decide, for_range (lo := 0) (n := (8 : Int).toNat) (fun j sg H' => ∃ (v4 v10 v11 v12 v13 v14 v15 : Option V) (d : Addr) (ks : Ks) (cs ts : List Addr) (rc : List Call) (gs : List Int), sg = [some (.ref a), some (.int i), some (.ref p), some (.ref D), v4, some (.ref lw), some (.ref ln), some (.ref f), some (.ref f2), some (.ref tb), v10, v11, v12, v13, v14, v15] ∧ Same H1 H' ∧ LS FC C p f c tb D H' lw ln ws nms f2 d2 c2 ks2 d ks cs ts rc rc gs ∧ ks.map (·.1) = nms ∧ ks.map (·.2.1) = gs.map rG ∧ (∀ g ∈ gs, 1 ≤ g ∧ g ≤ 9 + (j : Int)) ∧ rc.length ≤ 6 ∧ ∀ r ∈ rc, r.ok) ⟨_, _, _, _, _, _, _, d, ks, [], [], [], gs, rfl, s19, L0, kn, kg, gb', Nat.zero_le _, fun r h => nomatch h⟩ ?_ ?_⟩
    · clear L0 s19 kn kg kg2 gb' gl ks gs d
      rintro j sg H2 hj ⟨v4, v10, v11, v12, v13, v14, v15, d, ks, cs, ts, rc, gs, rfl, s12, L2', kn, kg, gb, rl, rok⟩
      have hj8 : j < 8 := hj
      refine ⟨_, rfl, _, rfl, _, rfl, p, lw, ln, ws, nms, rfl, L2'.st, hid_same _ _ L2'.vw.ew, lwp, hid_same _ _ L2'.vw.en, lnp, by omega, by omega, ww, by omega, by omega, nw, fun l lr lo y0 y1 y2 y3 os H3 nl3 nlr nlo sb3 st3 el er eo ro => ⟨l, _, rfl, SqL.of el, rfl, _, _, rfl, _, _, rfl, rfl, ?_⟩⟩
      have L3 := L2'.draw nd5 sb3 st3
      have s13 : Same H1 H3 := SameB.out s12 sb3 (nM1 p (by simp))
      have lrM := L2'.fresh nlr
      have tl : ts.length = rc.length := pr_len L3.vw.pt
      have cl : cs.length = rc.length := pr_len L3.vw.pc
      clear L2' s12 sb3 st3 nl3 el nlo nlr
      have ro3 := ro.keep hid_same
      rw [← kn] at ro3
      refine ⟨_, rfl, _, rfl, _, rfl, _, rfl, tb, _, rfl, .inl (SqL.of L3.et), ks, lr, lo, y0, y1, y2, y3, _, os, (ts.map V.ref).length, rfl, er, eo, ro3, by rw [List.length_map, tl]; exact rl, fun oc ld H4 ca nld s34 eld => ?_⟩
      rw [List.length_map, tl] at ca eld
      have ca4 := ca.keep s34
      have L4 := L3.keep s34
      have er4 := s34 _ _ er
      have s14 := s13.trans s34
      have wdK : WdKs ks := fun e he => by
        have m : e.1 ∈ ks.map (·.1) := List.mem_map_of_mem he
        rw [kn] at m
        exact (nw _ m).ok
      have ldM := L3.fresh nld
      clear L3 s13 s34 er eo ro ro3 ca nld
      have cl' : (cs.map V.ref).length = rc.length := by rw [List.length_map, cl]
      have ca5 := ca4
      rw [← cl'] at ca5
      refine ⟨_, rfl, _, rfl, f, d, c, lr, y0, y1, y2, y3, ks, cs.map V.ref, oc, rfl, L4.flt, wdK, er4, ca5, fun la H5 nla ap ela => ?_⟩
      rw [cl'] at ela
      obtain ⟨cs5, rc5, L5, h5, k5⟩ : ∃ (cs5 : List Addr) (rc5 : List Call), LS FC C p f c tb D H5 lw ln ws nms f2 d2 c2 ks2 d ks cs5 ts rc5 rc gs ∧ rc5 = rcA rc oc ∧ (∀ b o, H4 b = some o → b ≠ c → H5 b = some o) := by
        cases oc with
        | inl kk =>
          have ap' : Same H4 H5 := ap
          exact ⟨cs, rc, L4.keep ap', rfl, fun b o e _ => ap' b o e⟩
        | inr r =>
          obtain ⟨t, nt, ec, et, sm⟩ := ap
          exact ⟨cs ++ [t], rc ++ [r], L4.call nd5 sm nt et ec, rfl, sm⟩
      have notc : ∀ {q : Addr}, q ∉ [p, f, c, tb, D] → q ≠ c := fun n z => n (by rw [z]; simp)
      have eld5 := k5 _ _ eld (notc ldM)
      have er5 := k5 _ _ er4 (notc lrM)
      have s15 : Same H1 H5 := fun q o e => k5 _ _ (s14 q o e) fun z => by
        have := nM1 c (by simp)
        rw [z, this] at e; cases e
      have z6 : rc.length ≤ 6 := rl
      refine ⟨_, _, rfl, shw_due ca4 z6 ela, _, rfl, _, _, rfl, shw_due ca4 z6 eld5, rfl, _, rfl, iteFe (show (!decide (V.str (PyData.list (DueD rc.length oc)).shown = V.str (PyData.list (DueD rc.length oc)).shown)) = false by rw [decide_eq_true rfl]; rfl) ?_⟩
      clear L4 er4 ap ela eld ca5 s14 nla k5
      refine ⟨fun sg H' => ∃ (cs ts : List Addr) (rc : List Call), sg = [some (.ref a), some (.int i), some (.ref p), some (.ref D), some (.int (0 + (j : Int))), some (.ref lw), some (.ref ln), some (.ref f), some (.ref f2), some (.ref tb), some (.ref ld), v11, v12, some (.ref lr), some (.ref lo), v15] ∧ Same H1 H' ∧ LS FC C p f c tb D H' lw ln ws nms f2 d2 c2 ks2 d ks cs ts rc rc gs ∧ rc.length ≤ 6 ∧ ∀ r ∈ rc, r.ok, ?_, ?_⟩
      · cases oc with
        | inl kk =>
          have nad : kk.1 ≠ "added" := by
            obtain ⟨pay, _, q⟩ := ca4.1
            rcases q with ⟨e, _⟩ | ⟨_, _, _, _, ⟨e, _⟩ | ⟨_, _, _, ⟨e, _⟩ | ⟨_, _, _, ⟨e, _⟩ | ⟨_, _, _, _, e, _⟩⟩⟩⟩ <;> rw [e] <;> decide +kernel
          have h5' : rc5 = rc := h5
          subst h5'
          exact ⟨_, rfl, ld, _, 0, _, rfl, rfl, SqL.of eld5, rfl, rfl, _, rfl, iteFe (show decide (V.str kk.1 = V.str "added") = false from decide_eq_false fun q => nad (by injection q)) ⟨_, _, _, rfl, s15, L5, rl, rok⟩⟩
        | inr r =>
          obtain ⟨gd, wa⟩ := ca4
          obtain ⟨rfl, rfl, rfl, rfl, w0, mm1, mm2, i0, iL, n6⟩ := gd
          have h5' : rc5 = rc ++ [r] := h5
          subst h5'
          refine ⟨_, rfl, ld, _, 0, _, rfl, rfl, SqL.of eld5, rfl, rfl, _, rfl, iteTe (show decide (V.str "added" = V.str "added") = true from decide_eq_true rfl) ?_⟩
          refine ⟨_, rfl, .inl ⟨rfl, _, .inl (.inl L5.et)⟩, _, rfl, lr, _, rfl, .inl ⟨SqL.of er5, fun tq ntq => ?_⟩⟩
          have L6 := L5.keep (same_new (o := .tup r.t) ntq)
          have L7 := L6.tab nd5 (r := r) (L5.fresh ntq) upd_same
          have wn : ∀ z, z ∈ ks.map (·.1) → Wd z := fun z m => nw z (kn ▸ m)
          refine ⟨tb, _, _, rfl, rfl, L6.et, by rw [List.length_map, tl, sizeLine_eq]; omega, _, _, _, rfl, fun q o e => ?_, L7, by rw [List.length_append]; show rc.length + 1 ≤ 6; omega, fun x hx => ?_⟩
          · have nt1 := nM1 tb (by simp)
            rw [upd_ne (ne_of_none e nt1)]
            exact (same_new ntq) _ _ (s15 _ _ e)
          · rcases List.mem_append.mp hx with q | q
            · exact rok x q
            · rw [List.mem_singleton.mp q]
              exact ⟨wa, wn _ mm1, wn _ mm2, i0, iL⟩
      clear L5 h5 s15 eld5 er5 ca4 z6 tl cl cl' rl rok rc5 cs5 cs ts rc oc
      rintro sg H6 ⟨cs, ts, rc, rfl, s16, L6, rl, rok⟩
      have few : ks.length ≤ 5 := by
        have := congrArg List.length kn
        rw [List.length_map] at this; omega
      have ndK : (ks.map (·.1)).Nodup := by rw [kn]; exact nd
      have oknm : ∀ z ∈ nms, okW z := fun z hz => okW_az (nw z hz).1
      obtain ⟨dxf, ef6⟩ := L6.ef
      refine ⟨_, rfl, f, dxf, _, rfl, ef6, get_fno _ _ (by decide +kernel) (by decide +kernel), f, d, c, ks, cs.map V.ref, rfl, L6.flt, fun lt nlt => ?_⟩
      have ltM := L6.fresh nlt
      have L7 := L6.keep (same_new (o := .lst (cs.map V.ref)) nlt)
      have s67 := same_new (o := .lst (cs.map V.ref)) nlt
      have elt : upd H6 lt (.lst (cs.map V.ref)) lt = some (.lst (cs.map V.ref)) := upd_same
      generalize upd H6 lt _ = H7 at *
      have pc7 := pr_imp (fun _ _ q => hid_same _ _ q) L7.vw.pc
      have pt7 := pr_imp (fun _ _ q => hid_same _ _ q) L7.vw.pt
      refine ⟨_, rfl, _, _, rfl, shw_calls rok rl elt pc7, _, rfl, _, _, rfl, shw_calls rok rl L7.et pt7, rfl, _, rfl, iteFe (show (!decide (V.str (callsD rc).shown = V.str (callsD rc).shown)) = false by rw [decide_eq_true rfl]; rfl) ?_⟩
      obtain ⟨dx2, ef2⟩ := L7.flt2.at_
      refine ⟨_, rfl, f2, dx2, _, rfl, ef2, get_fno _ _ (by decide +kernel) (by decide +kernel), f2, d2, c2, ks2, [], rfl, L7.flt2, fun lo2 nlo2 => ⟨by show 0 ≤ sizeLine; decide, fun le nle => ⟨.list [], .list [], .lst (SqL.of ((same_new nle) _ _ upd_same)) .nil, .lst (SqL.of upd_same) .nil, shaped_nil, shaped_nil, _, rfl, ?_⟩⟩⟩
      rw [eqv_self shaped_nil]
      refine iteF ?_
      have s78 := (same_new (o := .lst []) nlo2).trans (same_new (o := .lst []) nle)
      generalize upd (upd H7 lo2 _) le _ = H8 at *
      have L8 := L7.keep s78
      obtain ⟨dxf8, ef8⟩ := L8.ef
      refine ⟨_, rfl, f, dxf8, _, rfl, ef8, get_fno _ _ (by decide +kernel) (by decide +kernel), f, d, c, ks, cs.map V.ref, rfl, L8.flt, few, fun lnm ys H9 pm so nl9 s89 el9 => ?_⟩
      have ey : ys = srtW nms := by
        have q := (srt_eq so pm).trans (once_srt ndK)
        rw [kn] at q; exact q
      have L9 := L8.keep s89
      refine ⟨_, rfl, ln, nms, rfl, SqL.of (hid_same _ _ L9.vw.en), by omega, fun ys2 lp pm2 so2 nlp => ?_⟩
      have ey2 : ys2 = srtW nms := srt_eq so2 pm2
      subst ey ey2
      have okS : ∀ z ∈ srtW nms, okW z := fun z hz => oknm z (srtW_mem.mp hz)
      refine ⟨_, _, dp_strs (SqL.of ((same_new nlp) _ _ el9)), dp_strs (SqL.of upd_same), shaped_strs okS, shaped_strs okS, _, rfl, ?_⟩
      rw [eqv_self (shaped_strs okS)]
      refine iteF ?_
      have s6A := (s67.trans (s78.trans s89)).trans (same_new (o := .lst ((srtW nms).map V.str)) nlp)
      have eltA := (s78.trans (s89.trans (same_new (o := .lst ((srtW nms).map V.str)) nlp))) _ _ elt
      generalize upd H9 lp _ = HA at *
      clear L7 L8 L9 s67 s78 s89 el9 nlp nle nlo2 ef8 ef2 pc7 pt7 elt pm pm2 so so2 nl9 ef6
      refine ⟨_, rfl, .inl ⟨rfl, _, .inl (.inl eltA)⟩, lt, _, _, rfl, rfl, eltA, by rw [List.length_map, sizeLine_eq, pr_len L6.vw.pc]; omega, ?_⟩
      have s6B := same_mut (o := .lst (cs.map V.ref ++ [.non])) s6A nlt
      have LB := L6.keep s6B
      have s1B := s16.trans s6B
      generalize upd HA lt _ = HB at *
      clear L6 s6A s6B s16 eltA nlt ltM HA H9 H8 H7
      refine ⟨fun sg H' => ∃ (v15 : Option V) (d : Addr) (ks : Ks) (gs : List Int), sg = [some (.ref a), some (.int i), some (.ref p), some (.ref D), some (.int (0 + (j : Int))), some (.ref lw), some (.ref ln), some (.ref f), some (.ref f2), some (.ref tb), some (.ref ld), some (.ref lt), v12, some (.ref lr), some (.ref lo), v15] ∧ Same H1 H' ∧ LS FC C p f c tb D H' lw ln ws nms f2 d2 c2 ks2 d ks cs ts rc rc gs ∧ ks.map (·.1) = nms ∧ ks.map (·.2.1) = gs.map rG ∧ ∀ g ∈ gs, 1 ≤ g ∧ g ≤ 9 + ((j + 1 : Nat) : Int), ?_, ?_⟩
      · have bigs : ∀ (h : Nat), h ≤ 5 → ((h : Nat) : Int).natAbs < 2 ^ 300 := fun h q => i1000 (by omega) (by omega)
        obtain ⟨xa, xb, xe, xh⟩ := id LB.st
        refine ⟨_, rfl, p, xa, xb, _, rfl, xe, xh, (by decide), (by decide), fun u a' b' u0 u1 ha' => ?_⟩
        have sbC : SameB p HB (upd HB p (.lst [.int a', .int b'])) := SameB.mut (SameB.refl p HB)
        have stC : StA (upd HB p (.lst [.int a', .int b'])) p := ⟨a', b', upd_same, ha'⟩
        generalize upd HB p (.lst [.int a', .int b']) = HC at *
        clear xe xh ha'
        have LC := LB.draw nd5 sbC stC
        have s1C : Same H1 HC := SameB.out s1B sbC (nM1 p (by simp))
        refine ⟨rfl, _, rfl, ?_⟩
        by_cases c0 : u = 0
        · refine iteTe (show decide (V.int u = V.int 0) = true from decide_eq_true (by rw [c0])) ?_
          obtain ⟨xa, xb, xe, xh⟩ := id LC.st
          refine ⟨_, rfl, _, rfl, ln, _, rfl, .inl (SqL.of (hid_same _ _ LC.vw.en)), p, xa, xb, _, rfl, xe, xh, (by rw [List.length_map]; omega), (by rw [List.length_map]; exact bigs _ (by omega)), fun w a' b' w0 w1 ha' => ?_⟩
          have sbD : SameB p HC (upd HC p (.lst [.int a', .int b'])) := SameB.mut (SameB.refl p HC)
          have stD : StA (upd HC p (.lst [.int a', .int b'])) p := ⟨a', b', upd_same, ha'⟩
          generalize upd HC p (.lst [.int a', .int b']) = HD at *
          clear xe xh ha'
          rw [List.length_map] at w1
          have LD := LC.draw nd5 sbD stD
          have s1D : Same H1 HD := SameB.out s1C sbD (nM1 p (by simp))
          obtain ⟨q, rfl, hq⟩ : ∃ q : Nat, w = (q : Int) ∧ q < nms.length := ⟨w.toNat, by omega, by omega⟩
          have gl : gs.length = nms.length := by
            have h1 := congrArg List.length kg
            have h2 := congrArg List.length kn
            rw [List.length_map, List.length_map] at h1
            rw [List.length_map] at h2
            omega
          obtain ⟨z, ez⟩ : ∃ z, nms[q]? = some z := ⟨_, List.getElem?_eq_getElem hq⟩
          obtain ⟨gv, eg⟩ : ∃ g, gs[q]? = some g := ⟨_, List.getElem?_eq_getElem (by omega)⟩
          have gbv := gb gv (List.mem_of_getElem? eg)
          have wz := nw z (List.mem_of_getElem? ez)
          have atg : atI (gs.map V.int) (q : Int) = some (.int gv) := atI_nat (j := q) (by rw [List.getElem?_map, eg]; rfl)
          have atn : atI (nms.map V.str) (q : Int) = some (.str z) := atI_nat (j := q) (by rw [List.getElem?_map, ez]; rfl)
          have glt : q < (gs.map V.int).length := by rw [List.length_map]; omega
          refine ⟨_, rfl, _, rfl, D, _, _, _, rfl, rfl, SqL.of LD.es, atg, _, _, rfl, rfl, _, rfl, _, rfl, D, _, _, q, rfl, rfl, LD.es, ixN_at glt, ?_⟩
          have es' : (gs.map V.int).set q (.int (gv + 1)) = (gs.set q (gv + 1)).map V.int := (List.map_set ..).symm
          rw [es']
          have LE := LD.span nd5 (gs' := gs.set q (gv + 1))
          have s1E : Same H1 (upd HD D (.lst ((gs.set q (gv + 1)).map V.int))) := fun b o e => by rw [upd_ne (ne_of_none e nD1)]; exact s1D _ _ e
          generalize upd HD D _ = HE at *
          have atg' : atI ((gs.set q (gv + 1)).map V.int) (q : Int) = some (.int (gv + 1)) := atI_nat (j := q) (by rw [List.getElem?_map, List.getElem?_set, if_pos rfl, if_pos (by omega)]; rfl)
          have nS : NoS ks := fun e he => by
            have m : e.2.1 ∈ ks.map (·.2.1) := List.mem_map_of_mem he
            rw [kg] at m
            obtain ⟨g, _, e2⟩ := List.mem_map.mp m
            rw [← e2]; rfl
          have okg := ok_G (g := gv + 1) (by omega) (by omega)
          refine ⟨_, rfl, _, rfl, D, _, _, _, rfl, rfl, SqL.of LE.es, atg', rfl, fun x dx nx ndx nex => kmk1 nx ndx nex okg fun HF sF ka => ⟨rfl, ?_⟩⟩
          have LF := LE.keep sF
          have s1F := s1E.trans sF
          obtain ⟨dxF, efF⟩ := LF.ef
          have ekz : (ks.map (·.1))[q]? = some z := by rw [kn]; exact ez
          refine ⟨_, rfl, _, rfl, _, rfl, ln, _, _, _, rfl, rfl, SqL.of (hid_same _ _ LF.vw.en), atn, f, dxF, _, rfl, efF, f, d, c, _, _, ks, cs.map V.ref, rfl, LF.flt, few, nS.fed, .inr ⟨x, z, rG (gv + 1), rfl, rfl, ka, okg, wz.ok.1, wz.ok.2, .inr ⟨(fun s e => by cases e), .inr ⟨.inl (List.mem_of_getElem? ekz), .inr ⟨fun x' => nS.put.lg, fun d' x' HG ndG nxG faG keepG => ⟨rfl, ?_⟩⟩⟩⟩⟩⟩
          rw [put_set ndK ekz] at faG
          have naM : ∀ e ∈ ks.set q (z, rG (gv + 1), x'), e.2.2 ∉ [p, f, c, tb, D] := fun e he => by
            rcases List.mem_or_eq_of_mem_set he with h | h
            · obtain ⟨⟨dk, ek⟩, _⟩ := LF.vw.kd e h
              exact (hid_get ek).2
            · rw [h]; exact LF.fresh nxG
          have LG := LF.fleet nd5 ndG keepG faG naM
          refine ⟨_, d', _, gs.set q (gv + 1), rfl, fun b o e => keepG b o (s1F _ _ e) (ne_of_none e (nM1 f (by simp))), LG, ?_, ?_, fun g hg => ?_⟩
          · rw [List.map_set]
            show (ks.map (·.1)).set q z = nms
            rw [kn]
            obtain ⟨h1, h2⟩ := List.getElem?_eq_some_iff.mp ez
            rw [← h2]; exact List.set_getElem_self h1
          · rw [List.map_set, List.map_set, kg]
          · rcases List.mem_or_eq_of_mem_set hg with h | h
            · exact ⟨(gb g h).1, by have := (gb g h).2; omega⟩
            · rw [h]; exact ⟨by omega, by omega⟩
        · refine iteFe (show decide (V.int u = V.int 0) = false from decide_eq_false fun q => c0 (by injection q)) ?_
          exact ⟨_, d, ks, gs, rfl, s1C, LC, kn, kg, fun g hg => ⟨(gb g hg).1, by have := (gb g hg).2; omega⟩⟩
      clear LB s1B few ndK kn kg gb wdK ks gs d
      rintro sg HC ⟨v15, d, ks, gs, rfl, s1C, LC, kn, kg, gb⟩
      have few : ks.length ≤ 5 := by
        have := congrArg List.length kn
        rw [List.length_map] at this; omega
      have ndK : (ks.map (·.1)).Nodup := by rw [kn]; exact nd
      have wdK : WdKs ks := fun e he => by
        have m : e.1 ∈ ks.map (·.1) := List.mem_map_of_mem he
        rw [kn] at m
        exact (nw _ m).ok
      obtain ⟨dxC, efC⟩ := LC.ef
      refine ⟨_, rfl, f, dxC, _, rfl, efC, get_fno _ _ (by decide +kernel) (by decide +kernel), f, d, c, ks, cs.map V.ref, rfl, LC.flt, fun l2 nl2 => ?_⟩
      have LD := LC.keep (same_new (o := .lst (cs.map V.ref)) nl2)
      have s1D := s1C.trans (same_new (o := .lst (cs.map V.ref)) nl2)
      have el2 : upd HC l2 (.lst (cs.map V.ref)) l2 = some (.lst (cs.map V.ref)) := upd_same
      generalize upd HC l2 _ = HD at *
      have pcD := pr_imp (fun _ _ q => hid_same _ _ q) LD.vw.pc
      have ptD := pr_imp (fun _ _ q => hid_same _ _ q) LD.vw.pt
      refine ⟨_, _, rfl, shw_calls rok rl el2 pcD, _, rfl, _, _, rfl, shw_calls rok rl LD.et ptD, rfl, _, rfl, iteFe (show (!decide (V.str (callsD rc).shown = V.str (callsD rc).shown)) = false by rw [decide_eq_true rfl]; rfl) ?_⟩
      have enD := hid_same _ _ LD.vw.en
      have gl : gs.length = nms.length := by
        have h1 := congrArg List.length kg
        have h2 := congrArg List.length kn
        rw [List.length_map, List.length_map] at h1
        rw [List.length_map] at h2
        omega
      refine ⟨_, rfl, ln, rfl, ⟨_, SqL.of enD⟩, fun D2 nD2 => lc_list (K := K) (a := ln) (xs := nms.map V.str) (fun i H' => Same HD H' ∧ H' D2 = some (.lst ((gs.take i).map V.int))) ⟨same_new nD2, upd_same⟩ ?_ ?_ ?_⟩
      · rintro i H' _ ⟨s2, _⟩
        exact SqL.of (s2 _ _ enD)
      · rintro i x H' ex ⟨s2, eD2⟩
        rw [List.getElem?_map] at ex
        cases ez : nms[i]? with
        | none => rw [ez] at ex; cases ex
        | some z =>
        rw [ez] at ex
        cases ex
        have ilt := (List.getElem?_eq_some_iff.mp ez).1
        obtain ⟨e, ee⟩ : ∃ e, ks[i]? = some e := by
          have : i < ks.length := by
            have := congrArg List.length kn
            rw [List.length_map] at this; omega
          exact ⟨_, List.getElem?_eq_getElem this⟩
        have e1 : e.1 = z := by
          have h1 : (ks.map (·.1))[i]? = some e.1 := by rw [List.getElem?_map, ee]; rfl
          rw [kn, ez] at h1
          exact (Option.some.inj h1).symm
        obtain ⟨gv, eg, e2⟩ : ∃ gv, gs[i]? = some gv ∧ e.2.1 = rG gv := by
          have h1 : (ks.map (·.2.1))[i]? = some e.2.1 := by rw [List.getElem?_map, ee]; rfl
          rw [kg, List.getElem?_map] at h1
          cases h : gs[i]? with
          | none => rw [h] at h1; cases h1
          | some gv => rw [h] at h1; exact ⟨gv, rfl, (Option.some.inj h1).symm⟩
        have ke : kdOf ks z = some e := by rw [← e1]; exact kd_self ndK (List.mem_of_getElem? ee)
        have LX := LD.keep s2
        obtain ⟨dxX, efX⟩ := LX.ef
        refine ⟨rfl, yes_if ?_⟩
        refine ⟨_, rfl, _, rfl, f, dxX, _, rfl, efX, f, d, c, _, ks, cs.map V.ref, rfl, LX.flt, wdK, .inl ⟨z, e, rfl, ke, fun x1 H3 nx1 s3 kx1 => ?_⟩⟩
        obtain ⟨dk1, ek1⟩ := id kx1
        refine ⟨x1, dk1, _, rfl, ek1, x1, e.2.1, rfl, kx1, ?_⟩
        rw [e2]
        refine ⟨_, s3 _ _ eD2, by rw [List.length_map, List.length_take, sizeLine_eq]; omega, fun b o eb => by rw [upd_ne (ne_of_none eb nD2)]; exact s3 _ _ (s2 _ _ eb), ?_⟩
        rw [upd_same, List.take_succ, eg, List.map_append]; rfl
      rintro H' ⟨s2, eD2⟩
      rw [List.length_map, ← gl, List.take_length] at eD2
      have LX := LD.keep s2
      refine ⟨_, rfl, _, _, dp_ints (SqL.of eD2), dp_ints (SqL.of LX.es), shaped_ints gs, shaped_ints gs, _, rfl, ?_⟩
      rw [eqv_self (shaped_ints gs)]
      exact iteF ⟨_, _, _, _, _, _, _, d, ks, cs, ts, rc, gs, rfl, s1D.trans s2, LX, kn, kg, gb, rl, rok⟩
    · clear L0 s19 kn kg kg2 gb' gl ks gs d
      rintro sg H2 ⟨v4, v10, v11, v12, v13, v14, v15, d, ks, cs, ts, rc, gs, rfl, s12, LC, kn, kg, gb, rl, rok⟩
      obtain ⟨w0, ew0⟩ : ∃ z, ws[0]? = some z := ⟨ws[0]'(by omega), List.getElem?_eq_getElem _⟩
      obtain ⟨n0, en0⟩ : ∃ z, nms[0]? = some z := ⟨nms[0]'(by omega), List.getElem?_eq_getElem _⟩
      obtain ⟨ini, nz, enz⟩ : ∃ ini nz, nms = ini ++ [nz] := ⟨nms.dropLast, nms.getLast (by intro z; rw [z] at nl; simp at nl; omega), (List.dropLast_concat_getLast _).symm⟩
      have ww0 := ww _ (List.mem_of_getElem? ew0)
      have wn0 := nw _ (List.mem_of_getElem? en0)
      have mz : nz ∈ nms := by rw [enz]; simp
      have wnz := nw _ mz
      have at0 : atI (ws.map V.str) 0 = some (.str w0) := atI_nat (j := 0) (by rw [List.getElem?_map, ew0]; rfl)
      have an0 : atI (nms.map V.str) 0 = some (.str n0) := atI_nat (j := 0) (by rw [List.getElem?_map, en0]; rfl)
      have anz : atI (nms.map V.str) (-1) = some (.str nz) := by
        rw [enz, List.map_append]; exact atI_last _ _
      have ew2 := hid_same _ _ LC.vw.ew
      have en2 := hid_same _ _ LC.vw.en
      have fb := LC.flt2
      obtain ⟨dx2, ef2⟩ := id fb.at_
      have wd2 : WdKs ks2 := fun e he => by
        have m : e.1 ∈ ks2.map (·.1) := List.mem_map_of_mem he
        rw [kn2] at m
        exact (nw _ m).ok
      have hL0 : (0 : Int) ≤ L := by rw [hL]; decide
      refine ⟨_, rfl, f2, dx2, _, rfl, ef2, get_fno _ _ (by decide +kernel) (by decide +kernel), _, rfl, lw, _, 0, _, rfl, rfl, SqL.of ew2, at0, _, rfl, ln, _, 0, _, rfl, rfl, SqL.of en2, an0, _, rfl, 1, rfl, ln, _, -1, _, rfl, rfl, SqL.of en2, anz, rfl, rfl, f2, d2, c2, _, _, _, _, ks2, [], rfl, fb, wd2, .inr ⟨w0, rfl, ww0.ok.1, ww0.ok.2, .inr ⟨n0, rfl, by rw [kn2]; exact List.mem_of_getElem? en0, .inr ⟨nz, rfl, by rw [kn2]; exact mz, .inr ⟨0, rfl, Int.le_refl _, hL0, .inr ⟨by show 0 < 6; decide, fun t nt => ?_⟩⟩⟩⟩⟩⟩
      refine ⟨rfl, _, rfl, iteFe (show (!decide (V.int ((([] : List V).length : Nat) : Int) = V.int 0)) = false by rw [show (V.int ((([] : List V).length : Nat) : Int)) = V.int 0 from rfl, decide_eq_true rfl]; rfl) ?_⟩
      have c2M : c2 ∉ [p, f, c, tb, D] := (hid_get LC.vw.g2.cal).2
      have tc2 : t ≠ c2 := fun z => by rw [z, fb.cal] at nt; cases nt
      have sb2 : SameB c2 H2 (upd (upd H2 t (.tup (callT w0 n0 nz 0))) c2 (.lst ([] ++ [.ref t]))) := fun b o e n => by rw [upd_ne n, upd_ne (ne_of_none e nt)]; exact e
      have et2 : upd (upd H2 t (.tup (callT w0 n0 nz 0))) c2 (.lst ([] ++ [.ref t])) t = some (.tup (callT w0 n0 nz 0)) := by rw [upd_ne tc2]; exact upd_same
      have ec2 : upd (upd H2 t (.tup (callT w0 n0 nz 0))) c2 (.lst ([] ++ [.ref t])) c2 = some (.lst [.ref t]) := upd_same
      have s1A : Same H1 (upd (upd H2 t (.tup (callT w0 n0 nz 0))) c2 (.lst ([] ++ [.ref t]))) := fun b o e => sb2 _ _ (s12 _ _ e) (ne_of_none e nc21)
      generalize upd (upd H2 t _) c2 _ = HA at *
      have inM : ∀ x ∈ [p, f, c, tb, D], x ≠ c2 := fun x m z => c2M (z ▸ m)
      have ec0 := LC.vw.g2.cal
      have fb' : FltAt FC C HA f2 d2 c2 ks2 [.ref t] := ⟨⟨dx2, sb2 _ _ ef2 (ne_ty ef2 fb.cal (fun q => by cases q))⟩, sb2 _ _ fb.ed (ne_ty fb.ed fb.cal (fun q => by cases q)), ⟨.inl (sb2 _ _ fb.ed (ne_ty fb.ed fb.cal (fun q => by cases q))), fun e he => by
        obtain ⟨⟨dk, ek⟩, ok⟩ := fb.kds.2 e he
        exact ⟨⟨dk, sb2 _ _ ek (ne_ty ek fb.cal (fun q => by cases q))⟩, ok⟩⟩, ec2⟩
      have fa' : FltAt FC C HA f d c ks (cs.map V.ref) := LC.flt.keepB (p := c2) (fun b o e n => sb2 b o e n) (inM f (by simp)) (ne_ty LC.vw.ed ec0 (fun q => by cases q)) (inM c (by simp)) (fun e he => by
        obtain ⟨⟨dk, ek⟩, _⟩ := LC.vw.kd e he
        exact ne_ty ek ec0 (fun q => by cases q))
      have etA := sb2 _ _ LC.et (inM tb (by simp))
      have pcA := pr_imp (fun q r e => sb2 _ _ (hid_same _ _ e) (ne_ty e ec0 (fun q => by cases q))) LC.vw.pc
      have ptA := pr_imp (fun q r e => sb2 _ _ (hid_same _ _ e) (ne_ty e ec0 (fun q => by cases q))) LC.vw.pt
      have ewA := sb2 _ _ ew2 (ne_ty ew2 fb.cal (fun q => by
        injection q with q
        have := congrArg List.length q
        rw [List.length_map, wl3] at this; cases this))
      have enA := sb2 _ _ en2 (ne_ty en2 fb.cal (fun q => by
        injection q with q
        have := congrArg List.length q
        rw [List.length_map] at this
        have h0 : ([] : List V).length = 0 := rfl
        omega))
      obtain ⟨dxA, efA⟩ := fb'.at_
      have shc := shaped_call (i := 0) (okW_az ww0.1) (okW_az wn0.1) (okW_az wnz.1)
      refine ⟨_, rfl, f2, dxA, _, rfl, efA, get_fno _ _ (by decide +kernel) (by decide +kernel), f2, d2, c2, ks2, [.ref t], rfl, fb', fun lo nlo => ?_⟩
      have sB := same_new (o := .lst [.ref t]) nlo
      have elo : upd HA lo (.lst [.ref t]) lo = some (.lst [.ref t]) := upd_same
      generalize upd HA lo _ = HB at *
      refine ⟨_, rfl, lw, _, 0, _, rfl, rfl, SqL.of (sB _ _ ewA), at0, _, rfl, ln, _, 0, _, rfl, rfl, SqL.of (sB _ _ enA), an0, _, rfl, 1, rfl, ln, _, -1, _, rfl, rfl, SqL.of (sB _ _ enA), anz, by show 4 ≤ sizeLine; decide, fun tu ntu => ⟨by show 1 ≤ sizeLine; decide, fun lu nlu => ?_⟩⟩
      have sC := (same_new (o := .tup [.str w0, .str n0, .str nz, .int 0]) ntu).trans (same_new (o := .lst [.ref tu]) nlu)
      refine ⟨.list [.tuple [.str w0, .str n0, .str nz, .int 0]], .list [.tuple [.str w0, .str n0, .str nz, .int 0]], .lst (SqL.of (sC _ _ elo)) (.cons (.tup (SqT.of (sC _ _ (sB _ _ et2))) (.cons (.str _) (.cons (.str _) (.cons (.str _) (.cons (.int _) .nil))))) .nil), .lst (SqL.of upd_same) (.cons (.tup (SqT.of ((same_new nlu) _ _ upd_same)) (.cons (.str _) (.cons (.str _) (.cons (.str _) (.cons (.int _) .nil))))) .nil), shc, shc, _, rfl, ?_⟩
      rw [eqv_self shc]
      refine iteF ?_
      generalize upd (upd HB tu _) lu _ = HC at *
      have fC := fa'.keep (sB.trans sC)
      obtain ⟨dxC, efC⟩ := fC.at_
      refine ⟨_, rfl, f, dxC, _, rfl, efC, get_fno _ _ (by decide +kernel) (by decide +kernel), f, d, c, ks, cs.map V.ref, rfl, fC, fun l2 nl2 => ?_⟩
      have sD := (sB.trans sC).trans (same_new (o := .lst (cs.map V.ref)) nl2)
      refine ⟨_, _, rfl, shw_calls rok rl upd_same (pr_imp (fun _ _ q => sD _ _ q) pcA), _, rfl, _, _, rfl, shw_calls rok rl (sD _ _ etA) (pr_imp (fun _ _ q => sD _ _ q) ptA), rfl, _, rfl, iteFe (show (!decide (V.str (callsD rc).shown = V.str (callsD rc).shown)) = false by rw [decide_eq_true rfl]; rfl) ?_⟩
      exact ⟨_, _, _, _, _, _, _, _, _, _, _, _, _, _, _, rfl, s1.trans (s1A.trans sD)⟩
  · rintro sg H' ⟨v1, v2, v3, v4, v5, v6, v7, v8, v9, v10, v11, v12, v13, v14, v15, rfl, _⟩
    exact k H'
end

end K14

namespace K14
open PySem PySem.Spec PyProof.Rows L2 Jg
local macro_rules | `(tactic| walk_at "rd1") => `(tactic| (first
  | refine ⟨_, rfl, ?_⟩
  | refine ⟨_, _, rfl, rfl, ?_⟩
  | refine ⟨_, _, rfl, ?_⟩
  | refine ⟨rfl, ?_⟩
  | (refine ⟨show (0 : Int) < _ by omega, ?_⟩)
  | (refine ⟨Or.inl ⟨by omega, by omega⟩, ?_⟩)
  | (refine ⟨Or.inr ⟨by omega, by omega⟩, ?_⟩)
  | (refine ⟨(⟨by decide, by decide, by decide⟩ : CPow _ _), ?_⟩)
  | refine Or.inl ⟨_, rfl, ?_⟩
  | refine Or.inr ⟨_, rfl, ?_⟩
  | fail "rd"))
local macro_rules | `(tactic| walk_at "rd") => `(tactic| repeat' walk_at "rd1")


theorem ExnQ.of {K : PySem.W.Frag} {h : Heap} {mg : Str → Option Value} {x : Str} {CI : Addr} {qual : Str} {st : Stmt} {f : Str} {B nid iid : String} {line : List Value} {fI : Addr} {oc : Value} {od an : Option Addr} {osl : Array (Option Value)} {kV doc pm cdv ct : Value}
    (X : K.In h) (G : h.Ns mainGlobals mg) (fB : ExcBaseFacts B nid iid line) (sB : StoreFacts B line "object.__setattr__" "object") (aI : PySem.W.nsIn K mainGlobals x = some (some (.ref CI))) (xI : PySem.W.excInitIn K CI line nid = true) (xO : PySem.W.excOver K CI line = true)
    (sa : PySem.W.findIn K (.ref CI) "__setattr__" = some (some (.builtin "object.__setattr__"))) (exC : PySem.W.subIn K (.ref CI) (.type "BaseException") = some true) (tyC : PySem.W.typeIn K (.ref CI) = some (.type "type")) (kC : PySem.W.keepIn K (.ref CI) = true)
    (ga : PySem.W.findIn K (.ref CI) "__getattribute__" = some (some (.builtin "BaseException.__getattribute__"))) (gg : PySem.W.findIn K (.ref CI) "__getattr__" = some none) (hdC : PySem.W.hasDictIn K CI = true)
    (ha : PySem.W.findIn K (.ref CI) "__class__" = some (some (.builtin "object.__class__"))) (hn : PySem.W.specialIn K (.builtin "object.__class__") "__get__" = some (some (.builtin "getset_descriptor.__get__"))) (ht : PySem.W.takesIn K (.builtin "object.__class__") = some true) (hm : PySem.W.mroIn K CI (.type "object") = some true)
    (no : PySem.W.findIn K (.ref CI) f = some none) (iI : PySem.W.findIn K (.ref CI) "__init__" = some (some (.ref fI))) (tI : PySem.W.typeIn K (.ref fI) = some (.type "function"))
    (l : K.lookup fI = some ⟨oc, od, .func (PySem.W.fnOf "__init__" qual (defArgs st) (defBody st) (defScope st) .none kV doc pm an cdv ct), osl⟩) (c : PySem.W.codeIn K cdv qual = true) (k : PySem.W.keepIn K (.ref fI) = true)
    (sC : PySem.W.subIn K (.ref CI) (.ref CI) = some true) : ExnQ K mg x CI qual st f :=
  ⟨PySem.W.mg_of X G aI, ⟨B, nid, iid, line, fB, sB, xI, xO, hdC, sa, exC, tyC, kC⟩, ⟨⟨ga, gg, exC, hdC⟩, ha, hn, ht, hm⟩, no, ⟨fI, _, fun_mk l c k, iI, tI⟩, PySem.W.exm_ref exC hdC tyC sC⟩
theorem Txt.of {K : PySem.W.Frag} {mg : Str → Option Value} {C : Addr} {h : Heap} {t_gMOST_KINDS : Tok} {t_g_LONGEST_CHAIN : Tok} (X : K.In h) (G : h.Ns mainGlobals mg) (h_cl1 : PySem.W.plainGet K C Str.empty = true) (h_cl2 : PySem.W.hasDictIn K C = true) (h_cl3 : PySem.W.plainOver K C = true) (h_cl4 : PySem.W.findIn K (.ref C) "__setattr__" = some (some (.builtin "object.__setattr__"))) (h_ng : PySem.W.findIn K (.ref C) "_gap" = some none) (h_na : PySem.W.findIn K (.ref C) "_age" = some none) (h_ns : PySem.W.findIn K (.ref C) "_source" = some none) (h_cKind : PySem.W.nsIn K mainGlobals "Kind" = some (some (.ref C))) (h_gLONGEST : ∃ u, mg "LONGEST" = some u ∧ L2.RelV (.int 1000000000000000000000000000000) u) (h_b_isinstance : PySem.W.nsIn K mainGlobals "isinstance" = some none) (h_b_int : PySem.W.nsIn K mainGlobals "int" = some none) (h_b_bool : PySem.W.nsIn K mainGlobals "bool" = some none) (h_b_str : PySem.W.nsIn K mainGlobals "str" = some none) (h_b_tuple : PySem.W.nsIn K mainGlobals "tuple" = some none) (h_b_len : PySem.W.nsIn K mainGlobals "len" = some none) (h_b_max : PySem.W.nsIn K mainGlobals "max" = some none) (h_b_min : PySem.W.nsIn K mainGlobals "min" = some none) (h_b_range : PySem.W.nsIn K mainGlobals "range" = some none) (h_b_repr : PySem.W.nsIn K mainGlobals "repr" = some none) (h_gMOST_KINDS : PySem.W.nsIn K mainGlobals "MOST_KINDS" = some (some (.int 5 t_gMOST_KINDS))) (h_g_LONGEST_CHAIN : PySem.W.nsIn K mainGlobals "_LONGEST_CHAIN" = some (some (.int 4 t_g_LONGEST_CHAIN))) (h_b_any : PySem.W.nsIn K mainGlobals "any" = some none) (h_b_set : PySem.W.nsIn K mainGlobals "set" = some none) (h_b_dict : PySem.W.nsIn K mainGlobals "dict" = some none) (h_b_list : PySem.W.nsIn K mainGlobals "list" = some none) (h_b_sorted : PySem.W.nsIn K mainGlobals "sorted" = some none) (h_cls_ : PySem.W.findIn K (.ref C) "__class__" = some (some (.builtin "object.__class__"))) (h_cgt : PySem.W.specialIn K (.builtin "object.__class__") "__get__" = some (some (.builtin "getset_descriptor.__get__"))) (h_ctk : PySem.W.takesIn K (.builtin "object.__class__") = some true) (h_mro : PySem.W.mroIn K C (.type "object") = some true) (h_ne : PySem.W.findIn K (.ref C) "__ne__" = some (some (.builtin "object.__ne__"))) (h_kCC : PySem.W.kitOne K (.ref C) (.ref C) = some true) (h_kN : PySem.W.kitOne K (.type "NoneType") (.ref C) = some false) (h_kI : PySem.W.kitOne K (.type "int") (.ref C) = some false) (h_kS : PySem.W.kitOne K (.type "str") (.ref C) = some false) (h_kL : PySem.W.kitOne K (.type "list") (.ref C) = some false) (h_kT : PySem.W.kitOne K (.type "tuple") (.ref C) = some false) (h_kD : PySem.W.kitOne K (.type "dict") (.ref C) = some false) (h_oCC : PySem.W.notFirst K C (.ref C) = true) (h_oN : PySem.W.notFirst K C (.type "NoneType") = true) (h_oI : PySem.W.notFirst K C (.type "int") = true) (h_oS : PySem.W.notFirst K C (.type "str") = true) (h_oL : PySem.W.notFirst K C (.type "list") = true) (h_oT : PySem.W.notFirst K C (.type "tuple") = true) (h_oD : PySem.W.notFirst K C (.type "dict") = true) : Txt K mg C :=
  ⟨⟨h_cl1, h_cl2, h_cl3, h_cl4⟩, h_ng, h_na, h_ns, PySem.W.mg_of X G h_cKind, (by rw [L_eq]; exact h_gLONGEST), PySem.W.mg_none_of X G h_b_isinstance, PySem.W.mg_none_of X G h_b_int, PySem.W.mg_none_of X G h_b_bool, PySem.W.mg_none_of X G h_b_str, PySem.W.mg_none_of X G h_b_tuple, PySem.W.mg_none_of X G h_b_len, PySem.W.mg_none_of X G h_b_max, PySem.W.mg_none_of X G h_b_min, PySem.W.mg_none_of X G h_b_range, PySem.W.mg_none_of X G h_b_repr, ⟨_, PySem.W.mg_of X G h_gMOST_KINDS, t_gMOST_KINDS, rfl⟩, ⟨_, PySem.W.mg_of X G h_g_LONGEST_CHAIN, t_g_LONGEST_CHAIN, rfl⟩, PySem.W.mg_none_of X G h_b_any, PySem.W.mg_none_of X G h_b_set, PySem.W.mg_none_of X G h_b_dict, PySem.W.mg_none_of X G h_b_list, PySem.W.mg_none_of X G h_b_sorted, h_cls_, h_cgt, h_ctk, h_mro, h_ne, h_kCC, h_kN, h_kI, h_kS, h_kL, h_kT, h_kD, h_oCC, h_oN, h_oI, h_oS, h_oL, h_oT, h_oD⟩
theorem TxM.of {K : PySem.W.Frag} {mg : Str → Option Value} {h : Heap} {t_gMOST_CALLS : Tok} (X : K.In h) (G : h.Ns mainGlobals mg) (h_gMOST_CALLS : PySem.W.nsIn K mainGlobals "MOST_CALLS" = some (some (.int 6 t_gMOST_CALLS))) (h_b_zip : PySem.W.nsIn K mainGlobals "zip" = some none) : TxM K mg :=
  ⟨⟨_, PySem.W.mg_of X G h_gMOST_CALLS, t_gMOST_CALLS, rfl⟩, PySem.W.mg_none_of X G h_b_zip⟩
theorem FTx.of {K : PySem.W.Frag} {mg : Str → Option Value} {F : Addr} {h : Heap} {g_fn : Addr} (X : K.In h) (G : h.Ns mainGlobals mg) (h_cl1 : PySem.W.plainGet K F Str.empty = true) (h_cl2 : PySem.W.hasDictIn K F = true) (h_cl3 : PySem.W.plainOver K F = true) (h_cl4 : PySem.W.findIn K (.ref F) "__setattr__" = some (some (.builtin "object.__setattr__"))) (h_nk : PySem.W.findIn K (.ref F) "_kinds" = some none) (h_nc : PySem.W.findIn K (.ref F) "_calls" = some none) (h_cFleet : PySem.W.nsIn K mainGlobals "Fleet" = some (some (.ref F))) (h_ns : PySem.W.noSeq K F = true) (h_fn1 : PySem.W.findIn K (.ref F) "__getitem__" = some (some (.ref g_fn))) (h_fn2 : PySem.W.fnIn K g_fn = true) : FTx K mg F :=
  ⟨⟨h_cl1, h_cl2, h_cl3, h_cl4⟩, h_nk, h_nc, PySem.W.mg_of X G h_cFleet, h_ns, fun x e => by rw [h_fn1] at e; cases e; exact h_fn2⟩
theorem TstA.of {K : PySem.W.Frag} {mg : Str → Option Value} {CA : Addr} {CU : Addr} {CM : Addr} {CO : Addr} {CG : Addr} {h : Heap} (X : K.In h) (G : h.Ns mainGlobals mg) (h_gGap : PySem.W.nsIn K mainGlobals "GapError" = some (some (.ref CG))) (h_bL : PySem.W.nsIn K mainGlobals "LookupError" = some none) (h_bO : PySem.W.nsIn K mainGlobals "OverflowError" = some none) (h_kAG : PySem.W.kitOne K (.ref CA) (.ref CG) = some true) (h_kAM : PySem.W.kitOne K (.ref CA) (.ref CM) = some false) (h_kMG : PySem.W.kitOne K (.ref CM) (.ref CG) = some true) (h_kMA : PySem.W.kitOne K (.ref CM) (.ref CA) = some false) (h_kL : PySem.W.kitOne K (.ref CU) (.type "LookupError") = some true) (h_kO : PySem.W.kitOne K (.ref CO) (.type "OverflowError") = some true) (h_xUA : PySem.W.exmOne K (.ref CU) (.ref CA) = some false) (h_xMA : PySem.W.exmOne K (.ref CM) (.ref CA) = some false) (h_xMU : PySem.W.exmOne K (.ref CM) (.ref CU) = some false) (h_xOA : PySem.W.exmOne K (.ref CO) (.ref CA) = some false) (h_xOU : PySem.W.exmOne K (.ref CO) (.ref CU) = some false) (h_xOM : PySem.W.exmOne K (.ref CO) (.ref CM) = some false) : TstA K mg CA CU CM CO CG :=
  ⟨PySem.W.mg_of X G h_gGap, PySem.W.mg_none_of X G h_bL, PySem.W.mg_none_of X G h_bO, h_kAG, h_kAM, h_kMG, h_kMA, h_kL, h_kO, h_xUA, h_xMA, h_xMU, h_xOA, h_xOU, h_xOM⟩
abbrev kws_NK : List (Str × V) := [("age", .non), ("source", .non)]
theorem Ini_NK {K : PySem.W.Frag} {C D : Addr} {qual : Str} {st : Stmt} {f : Addr} {oc : Value} {od an : Option Addr} {osl : Array (Option Value)} {doc pm cdv ct : Value} 
    (a : PySem.W.findIn K (.ref C) "__init__" = some (some (.ref f))) (i : PySem.W.isFn K (.ref f) = true) (l : K.lookup f = some ⟨oc, od, .func (PySem.W.fnOf "__init__" qual (defArgs st) (defBody st) (defScope st) .none (.ref D) doc pm an cdv ct), osl⟩)
    (c : PySem.W.codeIn K cdv qual = true) (k : PySem.W.keepIn K (.ref f) = true) (d0 : PySem.W.nsIn K D "age" = some (some .none)) (d1 : PySem.W.nsIn K D "source" = some (some .none)) : IniK K C qual st kws_NK :=
  IniK.of a i l c k (.inr ⟨D, rfl, fun q hq => by
    simp only [kws_NK, List.mem_cons, List.not_mem_nil, or_false] at hq
    rcases hq with rfl | rfl
    · exact ⟨.none, d0, rfl⟩
    · exact ⟨.none, d1, rfl⟩⟩)
abbrev kws_NA : List (Str × V) := [("life", .int 0)]
theorem Mth_NA {K : PySem.W.Frag} {C D : Addr} {qual : Str} {st : Stmt} {f : Addr} {oc : Value} {od an : Option Addr} {osl : Array (Option Value)} {doc pm cdv ct : Value} {tk0 : Tok}
    (a : PySem.W.findIn K (.ref C) "add_call" = some (some (.ref f))) (i : PySem.W.isFn K (.ref f) = true) (l : K.lookup f = some ⟨oc, od, .func (PySem.W.fnOf "add_call" qual (defArgs st) (defBody st) (defScope st) .none (.ref D) doc pm an cdv ct), osl⟩)
    (c : PySem.W.codeIn K cdv qual = true) (k : PySem.W.keepIn K (.ref f) = true) (d0 : PySem.W.nsIn K D "life" = some (some (.int 0 tk0))) : MthK K C "add_call" qual st kws_NA :=
  MthK.of a i l c k (.inr ⟨D, rfl, fun q hq => by
    simp only [kws_NA, List.mem_cons, List.not_mem_nil, or_false] at hq
    rcases hq with rfl
    · exact ⟨(.int 0 tk0), d0, tk0, rfl⟩⟩)
theorem len_kinit {K : PySem.W.Frag} {C CI : Addr} : ∀ vs H Q E, spKInit K C CI vs H Q E → vs.length = ["self", "gap", "age", "source"].length := fun vs H Q E h => by
  obtain ⟨x, dx, u, v, s, H0, rfl, _⟩ := h; rfl
section
variable {P : Program} {w : World} {K : PySem.W.Frag} {mg : Str → Option Value} {base : Heap} {C CI : Addr} (D : IniK K C "Kind.__init__" s_Kind_init kws_NK) (m : mg "Kind" = some (.ref C)) (mk : PySem.W.makesIn K C = true) (kp : PySem.W.keepIn K (.ref C) = true)
    (body : ∀ f, BodyX P w K mg base ["self", "gap", "age", "source"] "Kind.__init__" s_Kind_init f 4 (spKInit K C CI))
include D m mk kp body
theorem mak3 : MakW P w K mg base (L2.CX P w) 5 "Kind" C ["gap", "age", "source"] g3 (spKInit K C CI) :=
  D.mak m mk kp sc_Kind_init len_kinit [] (fun us mv ws => us ++ ws) (fun z => nomatch z) (fun q hq => nomatch hq) (fun r1 _ r3 => r1.append r3)
    (fun D doc pm an cdv ct us mv ws h1 h2 h3 => match us, mv, ws, h1, h2, h3 with | [_], [], [_, _, _], _, _, _ => rfl) body
theorem mak1 : MakW P w K mg base (L2.CX P w) 5 "Kind" C ["gap"] g1 (spKInit K C CI) :=
  D.mak m mk kp sc_Kind_init len_kinit kws_NK (fun us mv ws => us ++ ws ++ mv) (fun z => nomatch z) (fun q hq => hq) (fun r1 r2 r3 => (r1.append r3).append r2)
    (fun D doc pm an cdv ct us mv ws h1 h2 h3 => match us, mv, ws, h1, h2, h3 with | [_], [_, _], [_], _, _, _ => ⟨_, _, _, _, _, _, rfl, rfl, _, _, _, _, _, _, rfl, rfl, rfl⟩) body
end
theorem len_add {K : PySem.W.Frag} {F C CA CU CM CO : Addr} : ∀ vs H Q E, spAdd K F C CA CU CM CO vs H Q E → vs.length = ["self", "role", "client", "server", "life"].length := fun vs H Q E h => by
  obtain ⟨f, d, c, y0, y1, y2, y3, ks, cs, rfl, _⟩ := h; rfl
section
variable {P : Program} {w : World} {K : PySem.W.Frag} {mg : Str → Option Value} {base : Heap} {C CA CU CM CO FC : Addr} (D : MthK K FC "add_call" "Fleet.add_call" s_Fleet_add_call kws_NA)
    (body : ∀ f, BodyX P w K mg base ["self", "role", "client", "server", "life"] "Fleet.add_call" s_Fleet_add_call f 4 (spAdd K FC C CA CU CM CO))
include D body
theorem metA : MetW P w K mg base (L2.CX P w) 5 FC "add_call" 4 ["life"] gA4 (spAdd K FC C CA CU CM CO) :=
  D.met sc_Fleet_add_call len_add 4 [] (fun us mv ws => us ++ ws) (fun z => nomatch z) (fun q hq => nomatch hq) (fun r1 _ r3 => r1.append r3)
    (fun D doc pm an cdv ct us mv ws h1 h2 h3 => match us, mv, ws, h1, h2, h3 with | [_, _, _, _], [], [_], _, _, _ => rfl) body
theorem metA0 : MetW P w K mg base (L2.CX P w) 5 FC "add_call" 4 [] gA0 (spAdd K FC C CA CU CM CO) :=
  D.met sc_Fleet_add_call len_add 4 kws_NA (fun us mv ws => us ++ mv ++ ws) (fun z => nomatch z) (fun q hq => hq) (fun r1 r2 r3 => (r1.append r2).append r3)
    (fun D doc pm an cdv ct us mv ws h1 h2 h3 => match us, mv, ws, h1, h2, h3 with | [_, _, _, _], [_], [], _, _, _ => ⟨_, _, _, _, _, _, rfl, rfl, rfl⟩) body
end
theorem fin {P : Program} {w : World} {K : PySem.W.Frag} {mg : Str → Option Value} {fa C CI CU CO CA CM CG FC : Addr} (hfa : mg "law" = some (.ref fa)) (T : Txt K mg C) (T4 : TxM K mg) (TF : FTx K mg FC) (W9 : TstA K mg CA CU CM CO CG) (mk1 : PySem.W.makesIn K C = true) (mk2 : PySem.W.keepIn K (.ref C) = true) (mk3 : PySem.W.makesIn K FC = true) (mk4 : PySem.W.keepIn K (.ref FC) = true) (I : ExnQ K mg "InvalidKind" CI "InvalidKind.__init__" s_InvalidKind_init "value") (U : ExnQ K mg "UnknownName" CU "UnknownName.__init__" s_UnknownName_init "name") (O : ExnQ K mg "LimitExceeded" CO "LimitExceeded.__init__" s_LimitExceeded_init "limit") (A4 : ExnQ K mg "InvalidCall" CA "InvalidCall.__init__" s_InvalidCall_init "value") (M4 : ExnQ K mg "InvalidMoment" CM "InvalidMoment.__init__" s_InvalidMoment_init "value") (NK : IniK K C "Kind.__init__" s_Kind_init kws_NK) (NA : MthK K FC "add_call" "Fleet.add_call" s_Fleet_add_call kws_NA) (d1 : DefK K mg "is_integer" s_is_integer) (d2 : DefK K mg "is_between" s_is_between) (d3 : DefK K mg "is_word" s_is_word) (d4 : DefK K mg "_checked_gap" s_checked_gap) (d5 : DefK K mg "_checked_age" s_checked_age) (d6 : DefK K mg "_checked_source" s_checked_source) (d7 : PrpK K C "gap" "Kind.gap" s_Kind_gap) (d8 : PrpK K C "age" "Kind.age" s_Kind_age) (d9 : PrpK K C "source" "Kind.source" s_Kind_source) (d10 : DefK K mg "_copied" s_copied) (d11 : DefK K mg "_chain_to" s_chain_to) (d12 : MetK K FC "__init__" "Fleet.__init__" s_Fleet_init) (d13 : MetK K FC "__setitem__" "Fleet.__setitem__" s_Fleet_setitem) (d14 : MetK K FC "_check" "Fleet._check" s_Fleet_check) (d15 : MetK K FC "__getitem__" "Fleet.__getitem__" s_Fleet_getitem) (d16 : MetK K FC "names" "Fleet.names" s_Fleet_names) (d17 : MetK K FC "calls" "Fleet.calls" s_Fleet_calls) (d18 : DefK K mg "_law_stream" s_law_stream) (d19 : DefK K mg "_law_draw" s_law_draw) (d20 : DefK K mg "_law_choose" s_law_choose) (d21 : DefK K mg "_law_words" s_law_words) (d22 : DefK K mg "_law_add" s_law_add) (d23 : DefK K mg "_law_wrong" s_law_wrong) (d24 : DefK K mg "_law_drawn_row" s_law_drawn_row) (d25 : DefK K mg "_law_fleet_of" s_law_fleet_of) (d26 : DefK K mg "law" s_law) :
    ∃ fd : FuncData, (∀ (s : Shared) (v : Value), BindsTo s fd ⟨[v], []⟩ [("script", v)]) ∧ ∀ base : Heap, K.In base → base.Ns mainGlobals mg → FnG P w K mg base CX0 12 fa fd ["script"] (spLaw K) := by
  obtain ⟨f, fd, F, m⟩ := d26.ex
  rw [hfa] at m
  cases m
  refine ⟨fd, ?_, fun base _ _ => ?_⟩
  · obtain ⟨_, _, _, _, _, _, _, _, _, rfl, _, _⟩ := F.ex
    exact fun s v => .of_eq rfl
  · have g1 := ok_is_integer (P := P) (w := w) (base := base)  (by assumption) (by assumption)
    have g2 := ok_is_between (P := P) (w := w) (base := base)  (by assumption) (by assumption) (by assumption)
    have g3 := ok_is_word (P := P) (w := w) (base := base)  (by assumption) (by assumption)
    have g4 := ok_kinit (P := P) (w := w) (base := base)  (by assumption)
    have g5 := ok_uinit (P := P) (w := w) (base := base)  (by assumption)
    have g6 := ok_linit (P := P) (w := w) (base := base)  (by assumption)
    have g7 := ok_cinit (P := P) (w := w) (base := base)  (by assumption)
    have g8 := ok_minit (P := P) (w := w) (base := base)  (by assumption)
    have g9 := ok_cg (P := P) (w := w) (base := base)  (by assumption) (by assumption) (by assumption) (by assumption)
    have g10 := ok_ca (P := P) (w := w) (base := base)  (by assumption) (by assumption) (by assumption) (by assumption)
    have g11 := ok_cs (P := P) (w := w) (base := base)  (by assumption) (by assumption) (by assumption) (by assumption)
    have hb := body_kinit (P := P) (w := w) (base := base) T g9 g10 g11
    have M3 := mak3 (CI := CI) NK T.cKind mk1 mk2 hb
    have M1 := mak1 (CI := CI) NK T.cKind mk1 mk2 hb
    have g15 := ok_gap (P := P) (w := w) (base := base)  (by assumption) (by assumption)
    have g16 := ok_age (P := P) (w := w) (base := base)  (by assumption) (by assumption)
    have g17 := ok_source (P := P) (w := w) (base := base)  (by assumption) (by assumption)
    have g18 := ok_copied (P := P) (w := w) (base := base)  (by assumption) (by assumption) (by assumption) (by assumption) (by assumption) (by assumption)
    have g19 := ok_chain_to (P := P) (w := w) (base := base)  (by assumption) (by assumption) (by assumption) (by assumption)
    have g20 := ok_finit (P := P) (w := w) (base := base) (C := C) (by assumption) (by assumption)
    have MF : Mak P w K mg base CX0 1 "Fleet" FC (spFInit FC C) := ⟨TF.cFleet, mk3, mk4, g20⟩
    have g22 := ok_fset (P := P) (w := w) (base := base)  (by assumption) (by assumption) (by assumption) (by assumption) (by assumption) (by assumption) (by assumption) (by assumption) (by assumption) (by assumption)
    have g23 := ok_fcheck (P := P) (w := w) (base := base)  (by assumption) (by assumption) (by assumption) (by assumption) (by assumption)
    have g24 := ok_fget (P := P) (w := w) (base := base)  (by assumption) (by assumption) (by assumption) (by assumption) (by assumption)
    have g25 := ok_fnames (P := P) (w := w) (base := base)  (by assumption) (by assumption) (by assumption)
    have g26 := ok_fcalls (P := P) (w := w) (base := base) (C := C) (by assumption) (by assumption) (by assumption)
    have ba := body_add (P := P) (w := w) (base := base) T T4 TF g23 g3 g2 g7 g8 g6
    have MA := metA NA ba
    have MA0 := metA0 NA ba
    have g30 := ok_stream (P := P) (w := w) (base := base)  (by assumption) (by assumption)
    have g31 := ok_draw (P := P) (w := w) (base := base)  (by assumption)
    have g32 := ok_choose (P := P) (w := w) (base := base)  (by assumption) (by assumption) (by assumption)
    have g33 := ok_words (P := P) (w := w) (base := base)  (by assumption) (by assumption) (by assumption) (by assumption)
    have g34 := ok_add (P := P) (w := w) (base := base)  (by assumption) (by assumption) (by assumption) (by assumption) (by assumption) (by assumption) (by assumption) (by assumption) (by assumption)
    have g35 := ok_wrong (P := P) (w := w) (base := base)  (by assumption) (by assumption)
    have g36 := ok_drawn (P := P) (w := w) (base := base)  (by assumption) (by assumption) (by assumption) (by assumption)
    have g37 := ok_fleet_of (P := P) (w := w) (base := base)  (by assumption) (by assumption) (by assumption) (by assumption) (by assumption) (by assumption)
    exact fnG_of F sc_law (fun vs H Q E h => by obtain ⟨a, ns, rfl, _⟩ := h; rfl) fun cdv A outer s H vs Q E g hr h =>
      let ⟨t, a, q⟩ := body_law (by assumption) (by assumption) (by assumption) (by assumption) (by assumption) (by assumption) (by assumption) (by assumption) (by assumption) (by assumption) (by assumption) (by assumption) (by assumption) (by assumption) (by assumption) (by assumption) fa cdv A outer s H vs Q E (guards_deeper g) hr h
      ⟨t, a.nox, q⟩
theorem walk {l : PySem.W.OpenLaw} {q : Program} {loose : List Str} {XP : (Str → Option Value) → Heap → Prop} {YP : World → Heap → Prop} {d : DefRec} {K : Params → PySem.W.Frag} (hn : l.most = some 63) (hdf : d.params.defaults = [])
    (hY : ∀ (w : World) (h : Heap), YP w h → (K w.params).In h)
    (F : ∀ (w : World) (mg : Str → Option Value) (fa : Addr) (h : Heap), (K w.params).In h → h.Ns mainGlobals mg → mg d.name = some (.ref fa) → XP mg h →
      ∃ fd : FuncData, (∀ (s : Shared) (u : Value), BindsTo s fd ⟨[u], []⟩ [("script", u)]) ∧ ∀ base : Heap, (K w.params).In base → base.Ns mainGlobals mg → FnG l.prog w (K w.params) mg base CX0 12 fa fd ["script"] (spLaw (K w.params))) :
    PySem.W.WalkO q loose XP YP l.row.toRowW d [] (fun f vs => PySem.call f vs) :=
  walk_ofG (n := 63) (k := 12) (x := "script") (CX := fun _ => CX0) (sp := fun w => spLaw (K w.params)) hn (by decide) hdf ⟨rfl, by decide, by decide⟩ hY F (fun _ _ a ns hl _ hS => ⟨a, ns, rfl, hS, hl, fun _ => rfl⟩) fun _ _ _ _ _ z => z
end K14
open PySem PySem.W PyProof.Rows
local macro_rules | `(tactic| walk_at "dk") => `(tactic| (refine' Jg.DefK.of (by assumption) (by assumption) ?a ?l ?c ?k; (case a => k_is); (case l => k_is); (case c => k_is); (case k => k_is)))
local macro_rules | `(tactic| walk_at "mk") => `(tactic| (refine' Jg.MetK.of ?a ?i ?l ?c ?k; (case a => k_is); (case i => k_is); (case l => k_is); (case c => k_is); (case k => k_is)))
local macro_rules | `(tactic| walk_at "pk") => `(tactic| (refine' Jg.PrpK.of ?a ?g ?tk ?rc ?l ?c ?k; (case a => k_is); (case g => k_is); (case tk => k_is); (case rc => k_is); (case l => k_is); (case c => k_is); (case k => k_is)))
local macro_rules | `(tactic| walk_at "ck") => `(tactic| (refine' Jg.CmtK.of ?rd ?ga ?a ?rc ?fi ?l ?c ?k; (case rd => k_is); (case ga => k_is); (case a => k_is); (case rc => k_is); (case fi => k_is); (case l => k_is); (case c => k_is); (case k => k_is)))
set_option maxRecDepth 100000 in
set_option maxHeartbeats 0 in
theorem PySem.Challenge.cw_gaplesskeys_k14_calls_of_a_fleet_holds : PySem.Challenge.rw_gaplesskeys_k14_calls_of_a_fleet.Holds := by
  w_on; o_law; k_head; (case hw => w_witness2)
  k_fill
  refine K14.walk (l := PySem.Challenge.rw_gaplesskeys_k14_calls_of_a_fleet) rfl rfl (fun w h Y => PySem.W.kIn_of Y) ?F
  case F =>
    intro w mg fa h KX G hmg XP
    refine' K14.fin hmg ?T ?T4 ?TF ?W9 ?mk1 ?mk2 ?mk3 ?mk4 ?I ?U ?O ?A4 ?M4 ?NK ?NA ?d1 ?d2 ?d3 ?d4 ?d5 ?d6 ?d7 ?d8 ?d9 ?d10 ?d11 ?d12 ?d13 ?d14 ?d15 ?d16 ?d17 ?d18 ?d19 ?d20 ?d21 ?d22 ?d23 ?d24 ?d25 ?d26
    case T =>
      refine' K14.Txt.of KX G ?Tcl1 ?Tcl2 ?Tcl3 ?Tcl4 ?Tng ?Tna ?Tns ?TcKind ?TgLONGEST ?Tb_isinstance ?Tb_int ?Tb_bool ?Tb_str ?Tb_tuple ?Tb_len ?Tb_max ?Tb_min ?Tb_range ?Tb_repr ?TgMOST_KINDS ?Tg_LONGEST_CHAIN ?Tb_any ?Tb_set ?Tb_dict ?Tb_list ?Tb_sorted ?Tcls_ ?Tcgt ?Tctk ?Tmro ?Tne ?TkCC ?TkN ?TkI ?TkS ?TkL ?TkT ?TkD ?ToCC ?ToN ?ToI ?ToS ?ToL ?ToT ?ToD
      (case TcKind => k_is)
      (case TgLONGEST => first | exact Jg.loose_int XP (List.Mem.head _) | exact Jg.loose_int XP (List.Mem.tail _ (List.Mem.head _)) | exact Jg.loose_int XP (List.Mem.tail _ (List.Mem.tail _ (List.Mem.head _))))
      (case TgMOST_KINDS => k_is)
      (case Tg_LONGEST_CHAIN => k_is)
      all_goals (first | k_is | kit_is | rfl)
    case T4 =>
      refine' K14.TxM.of KX G ?T4gMOST_CALLS ?T4b_zip
      (case T4gMOST_CALLS => k_is)
      all_goals (first | k_is | kit_is | rfl)
    case TF =>
      refine' K14.FTx.of KX G ?TFcl1 ?TFcl2 ?TFcl3 ?TFcl4 ?TFnk ?TFnc ?TFcFleet ?TFns ?TFfn1 ?TFfn2
      (case TFcFleet => k_is)
      (case TFfn1 => k_is)
      all_goals (first | k_is | kit_is | rfl)
    (case mk1 => k_is); (case mk2 => k_is)
    (case mk3 => k_is); (case mk4 => k_is)
    case I =>
      refine' K14.ExnQ.of KX G PySem.F.excBase_ValueError PySem.F.store_ValueError ?XIaI ?XIxI ?XIxO ?XIsa ?XIexC ?XItyC ?XIkC ?XIga ?XIgg ?XIhdC ?XIha ?XIhn ?XIht ?XIhm ?XIno ?XIiI ?XItI ?XIl ?XIc ?XIk ?XIsC
      (case XIaI => k_is); (case XIxI => first | decide +kernel | rfl); (case XIxO => first | decide +kernel | rfl); (case XIsa => k_is); (case XIexC => k_is); (case XItyC => k_is); (case XIkC => k_is); (case XIga => k_is); (case XIgg => k_is); (case XIhdC => k_is); (case XIha => k_is); (case XIhn => k_is); (case XIht => k_is); (case XIhm => k_is)
      (case XIno => k_is); (case XIiI => k_is); (case XItI => k_is); (case XIl => k_is); (case XIc => k_is); (case XIk => k_is); (case XIsC => first | rfl | k_is)
    case U =>
      refine' K14.ExnQ.of KX G PySem.F.excBase_LookupError PySem.F.store_LookupError ?XUaI ?XUxI ?XUxO ?XUsa ?XUexC ?XUtyC ?XUkC ?XUga ?XUgg ?XUhdC ?XUha ?XUhn ?XUht ?XUhm ?XUno ?XUiI ?XUtI ?XUl ?XUc ?XUk ?XUsC
      (case XUaI => k_is); (case XUxI => first | decide +kernel | rfl); (case XUxO => first | decide +kernel | rfl); (case XUsa => k_is); (case XUexC => k_is); (case XUtyC => k_is); (case XUkC => k_is); (case XUga => k_is); (case XUgg => k_is); (case XUhdC => k_is); (case XUha => k_is); (case XUhn => k_is); (case XUht => k_is); (case XUhm => k_is)
      (case XUno => k_is); (case XUiI => k_is); (case XUtI => k_is); (case XUl => k_is); (case XUc => k_is); (case XUk => k_is); (case XUsC => first | rfl | k_is)
    case O =>
      refine' K14.ExnQ.of KX G PySem.F.excBase_OverflowError PySem.F.store_OverflowError ?XOaI ?XOxI ?XOxO ?XOsa ?XOexC ?XOtyC ?XOkC ?XOga ?XOgg ?XOhdC ?XOha ?XOhn ?XOht ?XOhm ?XOno ?XOiI ?XOtI ?XOl ?XOc ?XOk ?XOsC
      (case XOaI => k_is); (case XOxI => first | decide +kernel | rfl); (case XOxO => first | decide +kernel | rfl); (case XOsa => k_is); (case XOexC => k_is); (case XOtyC => k_is); (case XOkC => k_is); (case XOga => k_is); (case XOgg => k_is); (case XOhdC => k_is); (case XOha => k_is); (case XOhn => k_is); (case XOht => k_is); (case XOhm => k_is)
      (case XOno => k_is); (case XOiI => k_is); (case XOtI => k_is); (case XOl => k_is); (case XOc => k_is); (case XOk => k_is); (case XOsC => first | rfl | k_is)
    case A4 =>
      refine' K14.ExnQ.of KX G PySem.F.excBase_ValueError PySem.F.store_ValueError ?XA4aI ?XA4xI ?XA4xO ?XA4sa ?XA4exC ?XA4tyC ?XA4kC ?XA4ga ?XA4gg ?XA4hdC ?XA4ha ?XA4hn ?XA4ht ?XA4hm ?XA4no ?XA4iI ?XA4tI ?XA4l ?XA4c ?XA4k ?XA4sC
      (case XA4aI => k_is); (case XA4xI => first | decide +kernel | rfl); (case XA4xO => first | decide +kernel | rfl); (case XA4sa => k_is); (case XA4exC => k_is); (case XA4tyC => k_is); (case XA4kC => k_is); (case XA4ga => k_is); (case XA4gg => k_is); (case XA4hdC => k_is); (case XA4ha => k_is); (case XA4hn => k_is); (case XA4ht => k_is); (case XA4hm => k_is)
      (case XA4no => k_is); (case XA4iI => k_is); (case XA4tI => k_is); (case XA4l => k_is); (case XA4c => k_is); (case XA4k => k_is); (case XA4sC => first | rfl | k_is)
    case M4 =>
      refine' K14.ExnQ.of KX G PySem.F.excBase_ValueError PySem.F.store_ValueError ?XM4aI ?XM4xI ?XM4xO ?XM4sa ?XM4exC ?XM4tyC ?XM4kC ?XM4ga ?XM4gg ?XM4hdC ?XM4ha ?XM4hn ?XM4ht ?XM4hm ?XM4no ?XM4iI ?XM4tI ?XM4l ?XM4c ?XM4k ?XM4sC
      (case XM4aI => k_is); (case XM4xI => first | decide +kernel | rfl); (case XM4xO => first | decide +kernel | rfl); (case XM4sa => k_is); (case XM4exC => k_is); (case XM4tyC => k_is); (case XM4kC => k_is); (case XM4ga => k_is); (case XM4gg => k_is); (case XM4hdC => k_is); (case XM4ha => k_is); (case XM4hn => k_is); (case XM4ht => k_is); (case XM4hm => k_is)
      (case XM4no => k_is); (case XM4iI => k_is); (case XM4tI => k_is); (case XM4l => k_is); (case XM4c => k_is); (case XM4k => k_is); (case XM4sC => first | rfl | k_is)
    case NK =>
      refine' K14.Ini_NK ?NNKa ?NNKi ?NNKl ?NNKc ?NNKk ?NNKd0 ?NNKd1
      (case NNKa => k_is); (case NNKi => k_is); (case NNKl => k_is); (case NNKc => k_is); (case NNKk => k_is); (case NNKd0 => k_is); (case NNKd1 => k_is)
    case NA =>
      refine' K14.Mth_NA ?NNAa ?NNAi ?NNAl ?NNAc ?NNAk ?NNAd0
      (case NNAa => k_is); (case NNAi => k_is); (case NNAl => k_is); (case NNAc => k_is); (case NNAk => k_is); (case NNAd0 => k_is)
    case W9 =>
      refine' K14.TstA.of KX G ?W9gGap ?W9bL ?W9bO ?W9kAG ?W9kAM ?W9kMG ?W9kMA ?W9kL ?W9kO ?W9xUA ?W9xMA ?W9xMU ?W9xOA ?W9xOU ?W9xOM
      (case W9gGap => k_is)
      all_goals (first | k_is | kit_is | rfl)
    (case d1 => walk_at "dk")
    (case d2 => walk_at "dk")
    (case d3 => walk_at "dk")
    (case d4 => walk_at "dk")
    (case d5 => walk_at "dk")
    (case d6 => walk_at "dk")
    (case d7 => walk_at "pk")
    (case d8 => walk_at "pk")
    (case d9 => walk_at "pk")
    (case d10 => walk_at "dk")
    (case d11 => walk_at "dk")
    (case d12 => walk_at "mk")
    (case d13 => walk_at "mk")
    (case d14 => walk_at "mk")
    (case d15 => walk_at "mk")
    (case d16 => walk_at "mk")
    (case d17 => walk_at "mk")
    (case d18 => walk_at "dk")
    (case d19 => walk_at "dk")
    (case d20 => walk_at "dk")
    (case d21 => walk_at "dk")
    (case d22 => walk_at "dk")
    (case d23 => walk_at "dk")
    (case d24 => walk_at "dk")
    (case d25 => walk_at "dk")
    (case d26 => walk_at "dk")
#print axioms PySem.Challenge.cw_gaplesskeys_k14_calls_of_a_fleet_holds
