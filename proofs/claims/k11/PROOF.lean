import PyProof.Rows.All
import Wide.All
import OpenK.AllK
import Wide.FinOn
import HandS.ForMost
import HandS.IsInst
import HandS.ClsMeth
import HandS.Property
import HandS.Strs
import HandS.Wide
import PyProof.LongRange
import HandS.Exc
import PyProof.Rows.NestShow
import HandS.SetFor
import HandS.ExcInit
import HandS.ExcField
import HandS.ExcOwn
import HandS.WordsExc
import KE.KExcIs
import HandS.Small
import PyProof.Rows.Range3
import KE.KExcInit
import HandS.MakeKwOnly
import PyProof.ExcBaseAll.LookupError
import PyProof.ExcBaseAll.ValueError
import PyProof.ExcBaseAll.OverflowError
import PyProof.ExcBaseAll.RuntimeError
import PyProof.InstEq
import PyProof.EqKinds
import KE.KEqDict
import HandS.Style
import HandS.ExcIs
import HandS.Codes
import HandS.Text
import HandS.StrMore
import KE.RegKIsAll
import PySem.Challenge.RW_gaplesskeys_k11_kinds_made
set_option Elab.async false
set_option linter.all false
set_option maxRecDepth 100000
set_option maxHeartbeats 4000000
/-! own rules: own operators, long ranges, a class held by a local name, a classmethod without arguments -/
namespace Jg
open PySem PySem.Spec PyProof.Rows L2

section
variable {X : Cx} {CX : CXT} {n k : Nat} {C f : Addr} {fd : FuncData} {ps : List Str} {sp : Sp} {E : XK} {dvs : List V} {ds : List Value}
/-- what an own method must be to serve an operator -/
structure Own (K : PySem.W.Frag) (C : Addr) (m : Str) (f : Addr) : Prop where
  at_ : PySem.W.findIn K (.ref C) m = some (some (.ref f))
  fn : PySem.W.isFn K (.ref f) = true
theorem back_of {pins : List (Addr × Obj)} {σ : L2.St} {Q : VK} {v : Value} {s : Shared} (h : EP X pins σ Q v s) : PySem.W.CmpBack (EP X pins σ Q) v s := by
  obtain ⟨x, H', I, r, q⟩ := h
  cases v <;> first
    | exact ⟨x, H', I, r, q⟩
    | (exfalso; cases x <;> simp [L2.RelV] at r)
/-- x == y, x < y .. by the own method of x -/
def rOwn (K : PySem.W.Frag) (C : Addr) (sp : Sp) (E : XK) : R2 := fun x y H Q => ∃ a dx fs t, x = .ref a ∧ H a = some (.ins C dx fs) ∧ TyX K H y t ∧ PySem.W.notFirst K C t = true ∧ sp [.ref a, y] H Q E
theorem op_own {op : CmpOp} (F : FnOk X.prog X.w X.K X.mg X.base CX n f fd ps sp) (hr : Room n X.A) (o : Own X.K C (cmpInfo op).2.1 f) (hb : Binds X.K fd ps []) (hx : Passes CX X E)
    (hc : ∀ v u, compareOp op v u = richCompare op v u := by intro _ _; rfl) : OpR X (compareOp op) (rOwn X.K C sp E) := by
  intro pins s σ H x y v u Q I rx ry h
  obtain ⟨a, dx, fs, t, rfl, ha, ty, nf, q⟩ := h
  cases rx
  obtain ⟨mA, J, _⟩ := ins_get I.hok ha
  obtain ⟨od, J, _⟩ := J.look
  obtain ⟨m, hF⟩ := I.fr
  obtain ⟨P, Z, p, _⟩ := kit_of I ry ty
  rw [hc]
  refine PySem.W.cmp_K (op := op) (tb := t) hr.units0 hF I.ok.mod.kin J (Z.ty _ _ I.kIn p) nf o.at_ o.fn ?_
  exact wpAny_mono (run_fn (us := [.ref a, u]) (vs := [.ref a, y]) F hr hb .nil hx I (.cons rfl (.cons ry .nil)) q) (fun _ _ z => back_of z) fun _ _ z => z
/-- x & y, x + y .. of two instances of the class -/
def rOwnB (C : Addr) (sp : Sp) (E : XK) : R2 := fun x y H Q => ∃ a b dx fs dy gs, x = .ref a ∧ y = .ref b ∧ H a = some (.ins C dx fs) ∧ H b = some (.ins C dy gs) ∧ sp [.ref a, .ref b] H Q E
theorem op_ownB {op : Operator} (F : FnOk X.prog X.w X.K X.mg X.base CX n f fd ps sp) (hr : Room n X.A) (o : Own X.K C (PySem.dunder op.info.2) f) (hc : PySem.W.selfFirst X.K C = true) (hb : Binds X.K fd ps []) (hx : Passes CX X E) :
    OpR X (binaryOp op) (rOwnB C sp E) := by
  intro pins s σ H x y v u Q I rx ry h
  obtain ⟨a, b, dx, fs, dy, gs, rfl, rfl, ha, hb', q⟩ := h
  cases rx
  cases ry
  obtain ⟨mA, J, _⟩ := ins_get I.hok ha
  obtain ⟨od, J, _⟩ := J.look
  obtain ⟨mB, J', _⟩ := ins_get I.hok hb'
  obtain ⟨od', J', _⟩ := J'.look
  obtain ⟨m, hF⟩ := I.fr
  refine PySem.W.binop_K (op := op) hF I.ok.mod.kin J J'.type hc o.at_ o.fn ?_
  exact wpAny_mono (run_fn (us := [.ref a, .ref b]) (vs := [.ref a, .ref b]) F hr hb .nil hx I (.cons rfl (.cons rfl .nil)) q) (fun _ _ z => back_of z) fun _ _ z => z
/-- y in x by the own method of x -/
def rOwnIn (C : Addr) (sp : Sp) (E : XK) : R2 := fun y x H Q => ∃ a dx fs, x = .ref a ∧ H a = some (.ins C dx fs) ∧ sp [.ref a, y] H (fun v H' => ∃ b, v = .bl b ∧ Q (.bl b) H') E
def rOwnNotIn (C : Addr) (sp : Sp) (E : XK) : R2 := fun y x H Q => ∃ a dx fs, x = .ref a ∧ H a = some (.ins C dx fs) ∧ sp [.ref a, y] H (fun v H' => ∃ b, v = .bl b ∧ Q (.bl (!b)) H') E
theorem op_ownIn (F : FnOk X.prog X.w X.K X.mg X.base CX n f fd ps sp) (hr : Room n X.A) (o : Own X.K C "__contains__" f) (hb : Binds X.K fd ps []) (hx : Passes CX X E) :
    OpR X (compareOp .In) (rOwnIn C sp E) := by
  intro pins s σ H y x u v Q I ry rx h
  obtain ⟨a, dx, fs, rfl, ha, q⟩ := h
  cases rx
  obtain ⟨mA, J, _⟩ := ins_get I.hok ha
  obtain ⟨od, J, _⟩ := J.look
  obtain ⟨m, hF⟩ := I.fr
  refine PySem.W.in_K hF I.ok.mod.kin J o.at_ o.fn ?_
  refine wpAny_mono (run_fn (us := [.ref a, u]) (vs := [.ref a, y]) F hr hb .nil hx I (.cons rfl (.cons ry .nil)) q) (fun r s' z => ?_) fun _ _ z => z
  obtain ⟨w', H', I', rw', b, rfl, q'⟩ := z
  cases (show r = Value.bool b from rw')
  exact wpAny_truthy_bool ⟨.bl _, H', I', rfl, q'⟩
theorem op_ownNotIn (F : FnOk X.prog X.w X.K X.mg X.base CX n f fd ps sp) (hr : Room n X.A) (o : Own X.K C "__contains__" f) (hb : Binds X.K fd ps []) (hx : Passes CX X E) :
    OpR X (compareOp .NotIn) (rOwnNotIn C sp E) := by
  intro pins s σ H y x u v Q I ry rx h
  obtain ⟨a, dx, fs, rfl, ha, q⟩ := h
  cases rx
  obtain ⟨mA, J, _⟩ := ins_get I.hok ha
  obtain ⟨od, J, _⟩ := J.look
  obtain ⟨m, hF⟩ := I.fr
  refine PySem.W.notIn_K hF I.ok.mod.kin J o.at_ o.fn ?_
  refine wpAny_mono (run_fn (us := [.ref a, u]) (vs := [.ref a, y]) F hr hb .nil hx I (.cons rfl (.cons ry .nil)) q) (fun r s' z => ?_) fun _ _ z => z
  obtain ⟨w', H', I', rw', b, rfl, q'⟩ := z
  cases (show r = Value.bool b from rw')
  exact wpAny_truthy_bool ⟨.bl _, H', I', rfl, q'⟩
end

/-! ### cls(e, ..), cls a local name that holds the class -/
def tMakeL (i : Nat) (C : Addr) (sp : Sp) (dvs : List V) (E : XK) (t : TA) : TE := fun σ H Q => σ[i]? = some (some (.ref C)) ∧ tMake C sp dvs E t σ H Q
section
variable {X : Cx} {CX : CXT} {k i : Nat} {C f : Addr} {fd : FuncData} {ps : List Str} {sp : Sp} {dvs : List V} {ds : List Value} {E : XK} {x : Str} {p pos : Pos} {e : Expr} {es : List Expr} {t : TA}
theorem pe_makeL (M : Mk X.K C f) (F : FnOk X.prog X.w X.K X.mg X.base CX k f fd ps sp) (hr : Room (k + 1) X.A) (hN : X.N[i]? = some x) (hv : Vis X.env.scope x) (hb : Binds X.K fd ps ds) (hd : Vals dvs ds) (hx : Passes CX X E) (ha : PA X (e :: es) t)
    (hdb : (x == ("__debug__" : Str)) = false := by decide) (hcd : (x == ("__classdict__" : Str)) = false := by decide)
    (he : starEach (e :: es) X.env = (false, eval e X.env) :: starEach es X.env := by rfl) (hpl : (backTo pos (starEach es X.env)).any (·.1) = false := by rfl) : PE X (.Call (.Name x p) (e :: es) [] pos) (tMakeL i C sp dvs E t) := by
  refine ⟨fun pins s σ H Q I h => ?_⟩
  obtain ⟨hs, ht⟩ := h
  refine wpAny_Call_Name_kw (thn ((pe_var (pos := p) hN hv hdb hcd).run pins s σ H (fun v H1 => v = .ref C ∧ H1 = H) I ⟨.ref C, hs, rfl, rfl⟩) fun u s1 ⟨v, H1, I1, r1, q1⟩ => ?_)
  obtain ⟨rfl, rfl⟩ := q1
  cases r1
  refine PySem.W.callWith_K (h₀ := X.base) I.ok.mod.kin M.kp (thn (ha.run pos pins s1 σ _ _ I1 ht) fun us s2 ⟨vs, H2, I2, r, q⟩ => ⟨I2.kIn, ?_⟩) he hpl
  exact run_make M F hr hb hd hx I2 r q
end

/-! ### C.m() , m a classmethod, no argument -/
section
open ClX
variable {X : Cx} {CX : CXT} {k : Nat} {C p g : Addr} {mc : Value} {sp : Sp} {E : XK} {o : Expr} {m : Str} {pos apos : Pos} {ta : TE} {pl : Sem Bool}
theorem pe_cmeth0 (he : PE X o ta) (r : CRead X.K C mc) (c : CMet X.K C mc m p g) (F : FnR X.prog X.w X.K X.mg X.base CX k g sp) (hr : Room k X.A) (hx : Passes CX X E)
    (ht : eval (.Call (.Attribute o m apos) [] [] pos) X.env = (do
      let ov ← eval o X.env
      standAt apos.atName
      let (f, first) ← holding [ov] (getMethod ov m pl)
      callWith pos f first (backTo pos (starEach [] X.env)) (backToKw pos (keywordEach [] X.env))) := by rfl) :
    PE X (.Call (.Attribute o m apos) [] [] pos) (tCMeth C sp E ta tNil) := by
  refine ⟨fun pins s σ H Q I h => ?_⟩
  refine PySem.W.methodCall_KW (pl := pl) (thn (he.run pins s σ H _ I h) fun u s1 ⟨x, H1, I1, rx, ex, q⟩ => ?_) ht
  subst ex
  obtain rfl : u = Value.ref C := rx
  refine getmethcm_ok I1 r c fun s2 I2 => ?_
  refine PySem.W.callWith_M0 (K := X.K) (first := []) ⟨pin_at I2, I2.kIn⟩ c.fi ?_
  exact run_cm F hr hx I2 .nil q
end

/-! ### range(a, b) of any size -/
theorem turn_long {P : Program} {w : World} {K : PySem.W.Frag} {tg : Expr} (it : Addr) (lo : Int) (n : Nat) : Turn P w K tg (Itr lo n) [it] it (fun i h => IsLongIter h it (lo + (i : Nat) * 1) ((n : Int) - (i : Nat)) 1) where
  mem := by simp
  obj := fun i h st b hb => by
    have e : b = it := by simpa using hb
    subst e
    exact ⟨_, st, fun v z => by
      have z' : Data.fields _ = Data.cell v := z
      cases z'⟩
  keep := fun i h h' st k => k it (by simp) _ st
  item := by
    intro X hP hw hK hc i pins s σ H E I hf st hg
    subst hP hw hK
    obtain ⟨f0, f1, f2, f3, f4, f5⟩ := hf it (by simp)
    have W := Walks.longrange (prog := X.prog) (w := X.w) (I.ok.hd hc) it lo 1 n
    refine W.item i s _ _ hg st fun v h' tk hv st' kk => ?_
    obtain ⟨t, rfl⟩ := hv
    have I1 : Inv X pins σ H { s with heap := h', toks := tk } := I.turned (fun b o hb e => kk b o (by simpa using hb) e) f0 f1 f3 f4 f5
    refine ⟨_, rfl, go_of (s := { s with heap := h', toks := tk }) (n := "longrange_iterator") st' rfl rfl (by decide) ⟨.int (lo + i), H, I1, ⟨t, ?_⟩, ⟨rfl, rfl⟩, st', fun b hb => (hf b hb).1⟩⟩
    rw [Int.mul_one]
  done := by
    intro X hP hw hK hc i pins s σ H E I hf st hg
    subst hP hw hK
    obtain ⟨f0, f1, f2, f3, f4, f5⟩ := hf it (by simp)
    exact wpAny_pyNext_long_end (I.ok.hd hc) st (by have : n ≤ i := hg; omega) fun h' eb => ⟨rfl, I.turned (t' := s.toks) (fun b o hb e => eb b o hb e) f0 f1 f3 f4 f5⟩
  self := fun _ _ _ _ _ st h => wpAny_pyIter_longiter st h
section
variable {X : Cx} {tg : Expr}
theorem rsize_nat (lo hi : Int) : (((hi - lo).toNat : Nat) : Int) = Builtin.Range.rangeSize lo hi 1 := by
  rw [rangeSize_one]; split <;> omega
theorem rangeW_it {pins : List (Addr × Obj)} {σ : L2.St} {H : Hp} {s : Shared} {R : It → Hp → Prop} {E : Value → Shared → Prop} {lo hi : Int} {t u v : Tok} {tk : Nat} (I : Inv X pins σ H s)
    (q : R (Itr lo (hi - lo).toNat) H) : wpAny (model X.prog X.w) X.A (pyIter (.ref s.heap.objs.size)) (PIE X pins σ tg R) E { s with heap := s.heap.push { cls := .type "range", data := .fields #[.int lo t, .int hi u, .int 1 v] }, toks := tk } := by
  have I1 : Inv X pins σ H { s with heap := s.heap.push { cls := .type "range", data := .fields #[.int lo t, .int hi u, .int 1 v] }, toks := tk } := I.kept fun b o e => Heap.get?_push_of_some _ e
  cases hs : Builtin.Range.small lo hi 1 with
  | true =>
    refine wpAny_pyIter_range (IsRange.new ..) hs ?_
    refine ⟨(s.heap.push { cls := .type "range", data := .fields #[.int lo t, .int hi u, .int 1 v] }).objs.size, [(s.heap.push { cls := .type "range", data := .fields #[.int lo t, .int hi u, .int 1 v] }).objs.size], _, _, H, rfl,
      I1.kept (t' := tk) fun b o e => Heap.get?_push_of_some _ e, turn_range _ lo (hi - lo).toNat, ?_, fun b hb => ?_, q⟩
    · have e1 : lo + ((0 : Nat) : Int) * 1 = lo := by simp
      have e2 : (((hi - lo).toNat : Nat) : Int) - ((0 : Nat) : Int) = Builtin.Range.rangeSize lo hi 1 := by rw [rsize_nat]; simp
      show IsRangeIter _ _ (lo + ((0 : Nat) : Int) * 1) ((((hi - lo).toNat : Nat) : Int) - ((0 : Nat) : Int)) 1
      rw [e1, e2]
      exact Heap.get?_push_size _ rfl
    · have e : b = (s.heap.push { cls := .type "range", data := .fields #[.int lo t, .int hi u, .int 1 v] }).objs.size := by simpa using hb
      subst e
      exact I1.fpOk (Nat.le_refl _) (I1.hok.fresh (Nat.le_refl _))
  | false =>
    refine wpAny_pyIter_longrange (IsRange.new ..) hs ?_
    refine ⟨(s.heap.push { cls := .type "range", data := .fields #[.int lo t, .int hi u, .int 1 v] }).objs.size, [(s.heap.push { cls := .type "range", data := .fields #[.int lo t, .int hi u, .int 1 v] }).objs.size], _, _, H, rfl,
      I1.kept (t' := tk) fun b o e => Heap.get?_push_of_some _ e, turn_long _ lo (hi - lo).toNat, ?_, fun b hb => ?_, q⟩
    · have e1 : lo + ((0 : Nat) : Int) * 1 = lo := by simp
      have e2 : (((hi - lo).toNat : Nat) : Int) - ((0 : Nat) : Int) = Builtin.Range.rangeSize lo hi 1 := by rw [rsize_nat]; simp
      show IsLongIter _ _ (lo + ((0 : Nat) : Int) * 1) ((((hi - lo).toNat : Nat) : Int) - ((0 : Nat) : Int)) 1
      rw [e1, e2]
      exact Heap.get?_push_size _ rfl
    · have e : b = (s.heap.push { cls := .type "range", data := .fields #[.int lo t, .int hi u, .int 1 v] }).objs.size := by simpa using hb
      subst e
      exact I1.fpOk (Nat.le_refl _) (I1.hok.fresh (Nat.le_refl _))
def iRng2W (ta : TA) : TI := fun σ H R => ta σ H fun vs H1 => ∃ i j : Int, vs = [.int i, .int j] ∧ R (Itr i (j - i).toNat) H1
theorem pi_range2W {a b : Expr} {ta : TA} {p pos : Pos} (hg : Gl X "range") (hm : X.mg "range" = none) (ha : PA X [a, b] ta) (hs : starEach [a, b] X.env = [(false, eval a X.env), (false, eval b X.env)] := by rfl) (hs2 : starEach [b] X.env = [(false, eval b X.env)] := by rfl) :
    PI X tg (.Call (.Name "range" p) [a, b] [] pos) (iRng2W ta) := by
  refine ⟨fun pins s σ H R I h => ?_⟩
  refine Call_ (ld_blt I hg hm boot_range (PyProof.Rows.callWith_type1 (thn (ha.run pos pins s σ H _ I h) fun us s1 ⟨vs, H1, I1, r1, q1⟩ => ?_) (by rw [hs, hs2]) (by rw [hs2]; rfl)))
  obtain ⟨i, j, e, q⟩ := q1
  subst e
  cases r1 with
  | cons r rr =>
    cases rr with
    | cons r' rr =>
      cases rr
      obtain ⟨t, rfl⟩ := r
      obtain ⟨t', rfl⟩ := r'
      exact call_range_2 (rangeW_it I1 q)
end
end Jg

/-! defs that are called where no repr is under way, repr of data, and the law's end over such a def -/
namespace Jg
open PySem PySem.Spec PyProof.Rows L2

/-- a def's promise where no repr is under way -/
structure FnG (P : Program) (w : World) (K : PySem.W.Frag) (mg : Str → Option Value) (base : Heap) (CX : CXT) (k : Nat) (f : Addr) (fd : FuncData) (ps : List Str) (sp : Sp) : Prop where
  len : ∀ vs H Q E, sp vs H Q E → vs.length = ps.length
  run : ∀ (A : Around), A.guards = some [] → ∀ (outer : List Env) (s : Shared) (H : Hp) (args : Args) (us : List Value) (vs : List V) (Q : VK) (E : XK), Room k A → Env0 P w K mg base A outer s H → BindsTo s fd args (ps.zip us) → Vals vs us → sp vs H Q E →
    codeAny (model P w) A (.call (.ref f) args) (CR CX outer P w H s Q E) s
theorem FnG.of {P : Program} {w : World} {K : PySem.W.Frag} {mg : Str → Option Value} {base : Heap} {CX : CXT} {k : Nat} {f : Addr} {fd : FuncData} {ps : List Str} {sp : Sp} (F : FnOk P w K mg base CX k f fd ps sp) : FnG P w K mg base CX k f fd ps sp :=
  ⟨F.len, fun A _ => F.run A⟩
theorem FnG.mono {P : Program} {w : World} {K : PySem.W.Frag} {mg : Str → Option Value} {base : Heap} {CX : CXT} {j k : Nat} {f : Addr} {fd : FuncData} {ps : List Str} {sp : Sp} (F : FnG P w K mg base CX j f fd ps sp) (h : j ≤ k) :
    FnG P w K mg base CX k f fd ps sp := ⟨F.len, fun A g outer s H args us vs Q E hr => F.run A g outer s H args us vs Q E (hr.mono h)⟩

section
variable {X : Cx} {CX : CXT} {k : Nat} {f : Addr} {fd : FuncData} {ps : List Str} {sp : Sp} {dvs : List V} {ds : List Value} {E : XK} {x : Str} {p pos : Pos} {e : Expr} {es : List Expr} {t : TA}
theorem run_fnG {pins : List (Addr × Obj)} {σ : L2.St} {H : Hp} {s : Shared} {Q : VK} {us : List Value} {vs : List V} (F : FnG X.prog X.w X.K X.mg X.base CX k f fd ps sp) (g : X.A.guards = some []) (hr : Room k X.A) (hb : Binds X.K fd ps ds) (hd : Vals dvs ds) (hx : Passes CX X E)
    (I : Inv X pins σ H s) (r : Vals vs us) (h : sp (vs ++ dvs) H Q E) : wpAny (model X.prog X.w) X.A (call (.ref f) us) (EP X pins σ Q) X.xe s := by
  have both := r.append hd
  have hl : (us ++ ds).length = ps.length := both.length.symm.trans (F.len _ _ _ _ h)
  have go := F.run X.A g X.stack s H ⟨us, []⟩ (us ++ ds) (vs ++ dvs) Q E hr I.env0 (hb s us I.kIn hl) both h
  refine wpAny_call (codeAny_mono go fun r s' hq => ?_)
  match r, hq with
  | .error e, hq => exact hx pins σ H s e s' I hq
  | .ok (.ret u), hq => exact I.after hq
/-- f(e, ..) -/
theorem pe_callG (F : FnG X.prog X.w X.K X.mg X.base CX k f fd ps sp) (g : X.A.guards = some []) (hr : Room k X.A) (hg : Gl X x) (hm : X.mg x = some (.ref f)) (hk : PySem.W.keepIn X.K (.ref f) = true) (hb : Binds X.K fd ps ds) (hd : Vals dvs ds) (hx : Passes CX X E)
    (ha : PA X (e :: es) t) (hdb : (x == ("__debug__" : Str)) = false := by decide) (he : starEach (e :: es) X.env = (false, eval e X.env) :: starEach es X.env := by rfl) (hpl : (backTo pos (starEach es X.env)).any (·.1) = false := by rfl) :
    PE X (.Call (.Name x p) (e :: es) [] pos) (tCall sp dvs E t) :=
  ⟨fun pins s σ H Q I h => wpAny_Call_Name_kw (ld_glob I hg hm (PySem.W.callWith_K (h₀ := X.base) I.ok.mod.kin hk (thn (ha.run pos pins s σ H _ I h) fun _ _ ⟨_, _, I1, r, q⟩ => ⟨I1.kIn, run_fnG F g hr hb hd hx I1 r q⟩) he hpl) hdb)⟩
end

theorem guards_deeper {A : Around} {e : Env} (h : A.guards = some []) : (A.deeper e).guards = some [] := by
  first | exact h | (unfold Around.deeper; simpa using h)

section
variable {P : Program} {w : World} {K : PySem.W.Frag} {mg : Str → Option Value} {base : Heap}
/-- a def of the text, its body walked where no repr is under way -/
theorem fnG_of {CX : CXT} {k : Nat} {x qual : Str} {st : Stmt} {f : Addr} {fd : FuncData} {N ps : List Str} {sp : Sp} (F : Fun K x qual st f fd) (S : FnScope N ps (defScope st)) (len : ∀ vs H Q E, sp vs H Q E → vs.length = ps.length)
    (hbody : ∀ (cdv : Value) (A : Around) (outer : List Env) (s : Shared) (H : Hp) (vs : List V) (Q : VK) (E : XK), A.guards = some [] → Room k (A.deeper (envOfC qual (defScope st) s.heap.objs.size f cdv)) → sp vs H Q E →
      ∃ t, PSs (cxOf CX P w K mg base N qual (defScope st) f cdv A outer s H E) (defBody st) t ∧ t { nx := fun _ H' => Q .non H', rt := Q } (start N vs) H) : FnG P w K mg base CX (k + 1) f fd ps sp := by
  obtain ⟨oc, od, kV, doc, pm, an, cdv, ct, osl, rfl, lk, hcd⟩ := F.ex
  refine ⟨len, fun A g outer s H args us vs Q E hr e0 hb r hsp => ?_⟩
  have inHeap : K.In s.heap := e0.mod.kin.keeps fun b o e => (e0.bs b o e).1
  have kinds : ∀ y ∈ ps.zip us, (defScope st).names.lookup y.1 = some .local ∨ ((defScope st).names.lookup y.1 = some .cell ∧ ((cellsFrom (s.heap.objs.size + 1) (defScope st).names []).lookup y.1).isSome = true) := fun y hy =>
    (S.par y.1 (List.of_mem_zip hy).1).imp id fun q => ⟨q, PySem.W.cellsFrom_some _ _ _ (.inl q)⟩
  refine codeAny_call_function hr.depth (inHeap _ _ lk) rfl S.co S.gen rfl (PySem.W.codeRec_of inHeap hcd) (hb _ _ _ _ ?_)
  refine wpAny_newFunctionEnv_cells S.kind kinds fun env he s1 y => ?_
  subst he
  obtain ⟨t, ht, hq⟩ := hbody cdv A outer s H vs Q E g (hr.deeper _) hsp
  have I := inv_start (CX := CX) (E := E) S hr.hd e0 (len _ _ _ _ hsp) r y
  refine ⟨(e0.mod.nolimit.keeps fun b o e => (e0.bs b o e).1).keeps y.toInCall.keep, codeAny_func (wpAny_mono (ht.run [] s1 (start N vs) H _ I hq) (fun fl s' hs => ?_) fun _ _ hs => hs)⟩
  match fl, hs with
  | .ret u, ⟨v, _, H', J, rv, q⟩ => exact ⟨v, H', J.os, J.bare, J.base, J.hok, rv, q⟩
  | .next, ⟨_, H', J, q⟩ => exact ⟨.non, H', J.os, J.bare, J.base, J.hok, rfl, q⟩
  | .brk, ⟨_, _, _, q⟩ => exact False.elim q
  | .cont, ⟨_, _, _, q⟩ => exact False.elim q
end

/-! ### repr of data -/
theorem noDict : ∀ (K : PySem.W.Frag) (H : Hp) (d : PyData) (v : V), Dp K H v d → d.hasDict = false := by
  intro K H d v h
  refine Dp.rec (motive_1 := fun _ d _ => d.hasDict = false) (motive_2 := fun _ ds _ => PyData.hasDictAll ds = false) ?_ ?_ ?_ ?_ ?_ ?_ ?_ ?_ h
  · rfl
  · intro b; rfl
  · intro i; rfl
  · intro x; rfl
  · intro a xs ds _ _ ih; exact ih
  · intro a xs ds _ _ ih; exact ih
  · rfl
  · intro v vs d ds _ _ h1 h2
    show (PyData.hasDict d || PyData.hasDictAll ds) = false
    rw [h1, h2]; rfl
def rRepr (K : PySem.W.Frag) : List V → Hp → VK → Prop := fun xs H Q => ∃ a d, xs = [.ref a] ∧ Dp K H (.ref a) d ∧ d.showable = true ∧ d.depth ≤ 40 ∧ d.shown.length ≤ sizeLine ∧ Q (.str d.shown) H
section
variable {X : Cx}
theorem call_reprD (g : X.A.guards = some []) (hu : X.A.units + 64 < cLine) : CallR X (.builtin "repr") (rRepr X.K) := by
  intro pins s σ H xs us Q I r h
  obtain ⟨a, d, rfl, hd, hs, dp, hz, q⟩ := h
  obtain ⟨u, rfl, ru⟩ := vals1 r
  cases ru
  obtain ⟨as, R⟩ := Dp.reads I d (.ref a) (.ref a) hd rfl
  refine repr_of_reads' R hs (PyData.noDict_hsm (noDict _ _ _ _ hd)) g (by omega) (fun _ _ e => e) (fun h' u tk hk => ?_) hz
  exact ⟨.str d.shown, H, I.kept hk, ⟨_, rfl⟩, q⟩
end

/-! ### the end -/
theorem law_callG {P : Program} {w : World} {K : PySem.W.Frag} {mg mb : Str → Option Value} {CX : CXT} {k : Nat} {fa a : Addr} {fd : FuncData} {x : Str} {sp : Sp} {s₁ : Shared} {vs : List Value} {ns : List Int}
    (KX : K.In s₁.heap) (hns : s₁.heap.Ns mainGlobals mg) (hb : s₁.heap.Ns builtinsNs mb) (hbb : ∀ x : Str, x ≠ "__name__" → mb x = bootBuiltins x) (hlim : s₁.heap.NoLimit) (hg : s₁.gens = #[])
    (ha : s₁.heap.get? a = some { cls := .type "list", data := .seq vs.toArray }) (hi : IntsAre vs ns) (hl : ns.length ≤ sizeLine) (hr : Room k callerA)
    (F : ∀ base : Heap, K.In base → base.Ns mainGlobals mg → FnG P w K mg base CX k fa fd [x] sp) (hbind : ∀ (s : Shared) (u : Value), BindsTo s fd ⟨[u], []⟩ [(x, u)])
    (hsp : ∀ H : Hp, Only H → SqL K H a (ns.map V.int) → sp [.ref a] H (fun v _ => v = .bl true) fun _ _ _ => False)
    (hCX : ∀ H e s', CX [] H s₁ (fun _ _ _ => False) e s' → False) :
    codeAny (model P w) callerA (.call (.ref fa) ⟨[.ref a], []⟩) (fun r s' => r = .ok (.ret (.bool true)) ∧ OldK s₁.heap s'.heap ∧ s'.os = s₁.os ∧ AllBare s'.gens) s₁ := by
  have lenV := hi.length
  let scriptO : Obj := { cls := .type "list", data := .seq vs.toArray }
  -- what is tracked: the script, unless it is one of the module's own objects
  let H : Hp := fun b => if b = a ∧ K.lookup a = none then some (.frz scriptO (.lst (ns.map V.int))) else none
  have H1 : ∀ b u, H b = some u → b = a ∧ K.lookup a = none ∧ u = .frz scriptO (.lst (ns.map V.int)) := fun b u e => by
    show b = a ∧ _ ∧ _
    by_cases c : b = a ∧ K.lookup a = none
    · have e' : some (HO.frz scriptO (.lst (ns.map V.int))) = some u := (if_pos c).symm.trans e
      exact ⟨c.1, c.2, (Option.some.inj e').symm⟩
    · have e' : (none : Option HO) = some u := (if_neg c).symm.trans e
      cases e'
  have only : Only H := fun b => by
    cases e : H b with
    | none => exact .inl rfl
    | some u =>
      obtain ⟨_, _, rfl⟩ := H1 b u e
      exact .inr ⟨_, _, rfl⟩
  have seq : SqL K H a (ns.map V.int) := by
    cases hk : K.lookup a with
    | none => exact .inl (.inr ⟨scriptO, if_pos ⟨rfl, hk⟩⟩)
    | some o =>
      have e := KX a o hk
      rw [ha] at e
      cases e
      exact .inr ⟨_, vs.toArray, _, hk, rfl, rfl, rfl, by rw [List.size_toArray, lenV]; exact hl, by simpa using vals_ints hi⟩
  have ok : HOk P w H s₁.heap := fun b u e => by
    obtain ⟨rfl, _, rfl⟩ := H1 b u e
    exact ⟨ha, by rw [List.length_map]; exact hl, vs, _, vals_ints hi, ha⟩
  -- objects of other kinds than the script are not tracked
  have dictFree : ∀ {b : Addr} {o : Obj} {es : Array DictEntry} {ep : Nat}, s₁.heap.get? b = some o → o.data = .dict es ep → H b = none := fun {b o es ep} e d => by
    cases q : H b with
    | none => rfl
    | some u =>
      obtain ⟨rfl, _, _⟩ := H1 b u q
      rw [ha] at e
      cases e
      exact nomatch (show Data.seq vs.toArray _ = Data.dict es ep from d)
  have ns0 : ∀ {b : Addr} {m : Str → Option Value}, s₁.heap.Ns b m → (hidT s₁.heap H).Ns b m := fun {b m} ⟨o, es, ep, e, d, r⟩ => ⟨o, es, ep, hidT_get e (dictFree e d), d, r⟩
  have kin0 : K.In (hidT s₁.heap H) := fun b o e => hidT_get (KX b o e) (by
    cases q : H b with
    | none => rfl
    | some u =>
      obtain ⟨rfl, hk, _⟩ := H1 b u q
      rw [hk] at e; cases e)
  have md : Mod K mg (hidT s₁.heap H) := ⟨kin0, ns0 hns, ⟨mb, ns0 hb, hbb⟩, let ⟨mc, c1, c2⟩ := hlim; ⟨mc, ns0 c1, c2⟩⟩
  have e0 : Env0 P w K mg (hidT s₁.heap H) callerA [] s₁ H := ⟨rfl, md, fun b o e => of_hidT e, Nat.le_of_eq (hidT_size _ _), trivial, fun b hb => absurd (show b ∈ ([] : List Addr) from hb) (by simp), ok, .of_eq hg⟩
  have go := (F _ kin0 (ns0 hns)).run callerA rfl [] s₁ H ⟨[.ref a], []⟩ [.ref a] [.ref a] _ _ hr e0 (hbind s₁ (.ref a)) (.cons rfl .nil) (hsp H only seq)
  refine codeAny_mono go fun r s' h => ?_
  match r, h with
  | .error e, h => exact (hCX H e s' h).elim
  | .ok (.ret u), ⟨v, H', os, bare, un, hok', r', q⟩ =>
    have q' : v = .bl true := q
    subst q'
    cases (show u = Value.bool true from r')
    refine ⟨rfl, OldK.of_keep fun b o e => ?_, os, bare⟩
    cases q : H b with
    | none => exact un.keep b o e q (fun z => absurd (show b ∈ ([] : List Addr) from z) (by simp)) (by simp)
    | some u =>
      obtain ⟨rfl, _, rfl⟩ := H1 b u q
      have w2 := (hok' _ _ (un.frzs _ _ _ q)).1
      rw [ha] at e
      cases e
      exact w2
theorem walk_ofG {l : PySem.W.OpenLaw} {n k : Nat} {q : Program} {loose : List Str} {XP : (Str → Option Value) → Heap → Prop} {YP : World → Heap → Prop} {d : DefRec} {K : Params → PySem.W.Frag} {CX : World → CXT} {sp : World → Sp} {x : Str}
    (hn : l.most = some n) (hn2 : n ≤ sizeLine) (hdf : d.params.defaults = []) (hr : Room k callerA)
    (hY : ∀ (w : World) (h : Heap), YP w h → (K w.params).In h)
    (F : ∀ (w : World) (mg : Str → Option Value) (fa : Addr) (h : Heap), (K w.params).In h → h.Ns mainGlobals mg → mg d.name = some (.ref fa) → XP mg h →
      ∃ fd : FuncData, (∀ (s : Shared) (u : Value), BindsTo s fd ⟨[u], []⟩ [(x, u)]) ∧
        ∀ base : Heap, (K w.params).In base → base.Ns mainGlobals mg → FnG l.prog w (K w.params) mg base (CX w) k fa fd [x] (sp w))
    (hsp : ∀ (w : World) (H : Hp) (a : Addr) (ns : List Int), ns.length ≤ n → Only H → SqL (K w.params) H a (ns.map V.int) → sp w [.ref a] H (fun v _ => v = .bl true) fun _ _ _ => False)
    (hCX : ∀ (w : World) (H : Hp) (s : Shared) (e : Value) (s' : Shared), CX w [] H s (fun _ _ _ => False) e s' → False) :
    PySem.W.WalkO q loose XP YP l.row.toRowW d [] (fun f vs => PySem.call f vs) :=
  Att.attach_call hn hdf fun w _ s₁ mg mb fa _ _ _ _ a vs ns G Y _ _ _ hmg hobj hints hlen hg =>
    let ⟨_, hb, hF⟩ := F w mg fa _ (hY w _ Y) G.T.g hmg G.X
    law_callG (hY w _ Y) G.T.g G.T.b G.T.builtins G.T.nolimit hg hobj hints (Nat.le_trans hlen hn2) hr hF hb (fun H hO hS => hsp w H a ns hlen hO hS) fun H e s' => hCX w H s₁ e s'
/-- a number that the top keeps under a name, whatever its token -/
theorem loose_int {p : Program} {lv : List (Str × PySem.W.WData)} {mg : Str → Option Value} {h : Heap} {x : Str} {i : Int} (X : PySem.W.XL p lv mg h) (hm : (x, PySem.W.WData.int i) ∈ lv) : ∃ u, mg x = some u ∧ L2.RelV (.int i) u := by
  obtain ⟨v, e, r⟩ := X.2.val _ hm
  cases r
  exact ⟨_, e, _, rfl⟩
end Jg

/-! defs, methods, properties and classes by their names: addresses hidden -/
namespace Jg
open PySem PySem.Spec PyProof.Rows L2

theorem iteFe {A D : Prop} {b : Bool} (e : b = false) (h : D) : if b = true then A else D := by rw [e]; exact iteF h
theorem iteTe {A D : Prop} {b : Bool} (e : b = true) (h : A) : if b = true then A else D := by rw [e]; exact iteT h
/-- a def of the module as the top leaves it -/
structure DefK (K : PySem.W.Frag) (mg : Str → Option Value) (x : Str) (st : Stmt) : Prop where
  ex : ∃ f fd, Fun K x x st f fd ∧ mg x = some (.ref f)
theorem DefK.of {K : PySem.W.Frag} {h : Heap} {mg : Str → Option Value} {x : Str} {st : Stmt} {f : Addr} {oc : Value} {od an : Option Addr} {osl : Array (Option Value)} {kV doc pm cdv ct : Value} (X : K.In h) (G : h.Ns mainGlobals mg)
    (a : PySem.W.nsIn K mainGlobals x = some (some (.ref f))) (l : K.lookup f = some ⟨oc, od, .func (PySem.W.fnOf x x (defArgs st) (defBody st) (defScope st) .none kV doc pm an cdv ct), osl⟩)
    (c : PySem.W.codeIn K cdv x = true) (k : PySem.W.keepIn K (.ref f) = true) : DefK K mg x st := ⟨f, _, fun_mk l c k, PySem.W.mg_of X G a⟩
/-- a method of the class at C -/
structure MetK (K : PySem.W.Frag) (C : Addr) (m qual : Str) (st : Stmt) : Prop where
  ex : ∃ f fd, Fun K m qual st f fd ∧ PySem.W.findIn K (.ref C) m = some (some (.ref f)) ∧ PySem.W.isFn K (.ref f) = true
theorem MetK.of {K : PySem.W.Frag} {C : Addr} {m qual : Str} {st : Stmt} {f : Addr} {oc : Value} {od an : Option Addr} {osl : Array (Option Value)} {kV doc pm cdv ct : Value}
    (a : PySem.W.findIn K (.ref C) m = some (some (.ref f))) (i : PySem.W.isFn K (.ref f) = true) (l : K.lookup f = some ⟨oc, od, .func (PySem.W.fnOf m qual (defArgs st) (defBody st) (defScope st) .none kV doc pm an cdv ct), osl⟩)
    (c : PySem.W.codeIn K cdv qual = true) (k : PySem.W.keepIn K (.ref f) = true) : MetK K C m qual st := ⟨f, _, fun_mk l c k, a, i⟩
/-- a property of the class at C -/
structure PrpK (K : PySem.W.Frag) (C : Addr) (m qual : Str) (st : Stmt) : Prop where
  ex : ∃ p f fd, Fun K m qual st f fd ∧ PropOf K C m p f
theorem PrpK.of {K : PySem.W.Frag} {C : Addr} {m qual : Str} {st : Stmt} {p f : Addr} {rest : List Value} {oc : Value} {od an : Option Addr} {osl : Array (Option Value)} {kV doc pm cdv ct : Value}
    (a : PySem.W.findIn K (.ref C) m = some (some (.ref p))) (g : PySem.W.specialIn K (.ref p) "__get__" = some (some (.builtin "property.__get__"))) (tk : PySem.W.takesIn K (.ref p) = some true) (rc : PySem.W.recIn K p "property" = some (.ref f :: rest))
    (l : K.lookup f = some ⟨oc, od, .func (PySem.W.fnOf m qual (defArgs st) (defBody st) (defScope st) .none kV doc pm an cdv ct), osl⟩)
    (c : PySem.W.codeIn K cdv qual = true) (k : PySem.W.keepIn K (.ref f) = true) : PrpK K C m qual st := ⟨p, f, _, fun_mk l c k, ⟨a, g, tk, rest, rc⟩⟩
/-- a classmethod of the class at C -/
structure CmtK (K : PySem.W.Frag) (C : Addr) (mc : Value) (m qual : Str) (st : Stmt) : Prop where
  ex : ∃ p f fd, Fun K m qual st f fd ∧ ClX.CRead K C mc ∧ ClX.CMet K C mc m p f
theorem CmtK.of {K : PySem.W.Frag} {C : Addr} {mc : Value} {m qual : Str} {st : Stmt} {p f : Addr} {rest : List Value} {oc : Value} {od an : Option Addr} {osl : Array (Option Value)} {kV doc pm cdv ct : Value}
    (rd : PySem.W.readsIn K C mc = true) (ga : PySem.W.specialIn K (.ref C) "__getattribute__" = some (some (.builtin "type.__getattribute__")))
    (a : PySem.W.findCls K (.ref C) mc m = some (.get (.builtin "classmethod.__get__") (.ref p) .none (.ref C))) (rc : PySem.W.recIn K p "classmethod" = some (.ref f :: rest)) (fi : PySem.W.fnIn K f = true)
    (l : K.lookup f = some ⟨oc, od, .func (PySem.W.fnOf m qual (defArgs st) (defBody st) (defScope st) .none kV doc pm an cdv ct), osl⟩)
    (c : PySem.W.codeIn K cdv qual = true) (k : PySem.W.keepIn K (.ref f) = true) : CmtK K C mc m qual st := ⟨p, f, _, fun_mk l c k, ⟨rd, ga⟩, ⟨a, ⟨rest, rc⟩, fi⟩⟩

section
variable (P : Program) (w : World) (K : PySem.W.Frag) (mg : Str → Option Value) (base : Heap) (CX : CXT) (k : Nat)
/-- a def that may be called by its name -/
structure Cal (x : Str) (sp : Sp) : Prop where
  ex : ∃ f fd ps, FnOk P w K mg base CX k f fd ps sp ∧ mg x = some (.ref f) ∧ PySem.W.keepIn K (.ref f) = true ∧ Binds K fd ps []
structure CalG (x : Str) (sp : Sp) : Prop where
  ex : ∃ f fd ps, FnG P w K mg base CX k f fd ps sp ∧ mg x = some (.ref f) ∧ PySem.W.keepIn K (.ref f) = true ∧ Binds K fd ps []
/-- a method of the class at C -/
structure Met (C : Addr) (m : Str) (sp : Sp) : Prop where
  ex : ∃ f fd ps, FnOk P w K mg base CX k f fd ps sp ∧ PySem.W.findIn K (.ref C) m = some (some (.ref f)) ∧ PySem.W.isFn K (.ref f) = true ∧ PySem.W.keepIn K (.ref f) = true ∧ Binds K fd ps []
structure Prp (C : Addr) (m : Str) (sp : Sp) : Prop where
  ex : ∃ p f fd ps, FnOk P w K mg base CX k f fd ps sp ∧ PropOf K C m p f ∧ Binds K fd ps []
structure Cmt (C : Addr) (mc : Value) (m : Str) (sp : Sp) : Prop where
  ex : ∃ p f fd ps, FnOk P w K mg base CX k f fd ps sp ∧ ClX.CRead K C mc ∧ ClX.CMet K C mc m p f ∧ Binds K fd ps []
end
theorem CalG.of {P : Program} {w : World} {K : PySem.W.Frag} {mg : Str → Option Value} {base : Heap} {CX : CXT} {k : Nat} {x : Str} {sp : Sp} (c : Cal P w K mg base CX k x sp) : CalG P w K mg base CX k x sp :=
  let ⟨f, fd, ps, F, a⟩ := c.ex
  ⟨f, fd, ps, .of F, a⟩

/-- how a def of the text binds its arguments -/
def BindOk (x qual : Str) (st : Stmt) (ps : List Str) : Prop :=
  ∀ (kV doc pm : Value) (an : Option Addr) (cdv ct : Value) (us : List Value), us.length = ps.length → bindArgs (PySem.W.fnOf x qual (defArgs st) (defBody st) (defScope st) .none kV doc pm an cdv ct) ⟨us, []⟩ = pure (ps.zip us)
/-- what a body must show -/
def BodyOk (CX : CXT) (P : Program) (w : World) (K : PySem.W.Frag) (mg : Str → Option Value) (base : Heap) (N : List Str) (qual : Str) (st : Stmt) (f : Addr) (k : Nat) (sp : Sp) : Prop :=
  ∀ (cdv : Value) (A : Around) (outer : List Env) (s : Shared) (H : Hp) (vs : List V) (Q : VK) (E : XK), Room k (A.deeper (envOfC qual (defScope st) s.heap.objs.size f cdv)) → sp vs H Q E →
      ∃ t, PSs (cxOf CX P w K mg base N qual (defScope st) f cdv A outer s H E).nox (defBody st) t ∧ t { nx := fun _ H' => Q .non H', rt := Q } (start N vs) H
section
variable {P : Program} {w : World} {K : PySem.W.Frag} {mg : Str → Option Value} {base : Heap} {k : Nat} {C : Addr} {mc : Value} {x m qual : Str} {st : Stmt} {N ps : List Str} {sp : Sp}
theorem DefK.cal (D : DefK K mg x st) (S : FnScope N ps (defScope st)) (b : BindOk x x st ps) (len : ∀ vs H Q E, sp vs H Q E → vs.length = ps.length) (hb : ∀ f, BodyOk CX0 P w K mg base N x st f k sp) : Cal P w K mg base CX0 (k + 1) x sp :=
  let ⟨f, fd, F, m⟩ := D.ex
  ⟨f, fd, ps, F.ok S len (hb f), m, F.kp, F.binds b⟩
theorem DefK.calG (D : DefK K mg x st) (S : FnScope N ps (defScope st)) (b : BindOk x x st ps) (len : ∀ vs H Q E, sp vs H Q E → vs.length = ps.length)
    (hb : ∀ (f : Addr) (cdv : Value) (A : Around) (outer : List Env) (s : Shared) (H : Hp) (vs : List V) (Q : VK) (E : XK), (cxOf CX0 P w K mg base N x (defScope st) f cdv A outer s H E).nox.A.guards = some [] → Room k (A.deeper (envOfC x (defScope st) s.heap.objs.size f cdv)) → sp vs H Q E →
      ∃ t, PSs (cxOf CX0 P w K mg base N x (defScope st) f cdv A outer s H E).nox (defBody st) t ∧ t { nx := fun _ H' => Q .non H', rt := Q } (start N vs) H) : CalG P w K mg base CX0 (k + 1) x sp :=
  let ⟨f, fd, F, m⟩ := D.ex
  ⟨f, fd, ps, fnG_of F S len fun cdv A outer s H vs Q E g hr h =>
    let ⟨t, a, q⟩ := hb f cdv A outer s H vs Q E (guards_deeper g) hr h
    ⟨t, a.nox, q⟩, m, F.kp, F.binds b⟩
/-- .. and the function object, for the end -/
theorem DefK.fnG {fa : Addr} (D : DefK K mg x st) (hm : mg x = some (.ref fa)) (S : FnScope N ps (defScope st)) (b : BindOk x x st ps) (len : ∀ vs H Q E, sp vs H Q E → vs.length = ps.length) :
    ∃ fd : FuncData, Binds K fd ps [] ∧ ∀ (base : Heap), (∀ (f : Addr) (cdv : Value) (A : Around) (outer : List Env) (s : Shared) (H : Hp) (vs : List V) (Q : VK) (E : XK), (cxOf CX0 P w K mg base N x (defScope st) f cdv A outer s H E).nox.A.guards = some [] → Room k (A.deeper (envOfC x (defScope st) s.heap.objs.size f cdv)) → sp vs H Q E →
      ∃ t, PSs (cxOf CX0 P w K mg base N x (defScope st) f cdv A outer s H E).nox (defBody st) t ∧ t { nx := fun _ H' => Q .non H', rt := Q } (start N vs) H) → FnG P w K mg base CX0 (k + 1) fa fd ps sp := by
  obtain ⟨f, fd, F, m⟩ := D.ex
  rw [hm] at m
  cases m
  exact ⟨fd, F.binds b, fun base hb => fnG_of F S len fun cdv A outer s H vs Q E g hr h =>
    let ⟨t, a, q⟩ := hb _ cdv A outer s H vs Q E (guards_deeper g) hr h
    ⟨t, a.nox, q⟩⟩
theorem MetK.met (D : MetK K C m qual st) (S : FnScope N ps (defScope st)) (b : BindOk m qual st ps) (len : ∀ vs H Q E, sp vs H Q E → vs.length = ps.length) (hb : ∀ f, BodyOk CX0 P w K mg base N qual st f k sp) : Met P w K mg base CX0 (k + 1) C m sp :=
  let ⟨f, fd, F, a, i⟩ := D.ex
  ⟨f, fd, ps, F.ok S len (hb f), a, i, F.kp, F.binds b⟩
theorem PrpK.prp (D : PrpK K C m qual st) (S : FnScope N ps (defScope st)) (b : BindOk m qual st ps) (len : ∀ vs H Q E, sp vs H Q E → vs.length = ps.length) (hb : ∀ f, BodyOk CX0 P w K mg base N qual st f k sp) : Prp P w K mg base CX0 (k + 1) C m sp :=
  let ⟨p, f, fd, F, a⟩ := D.ex
  ⟨p, f, fd, ps, F.ok S len (hb f), a, F.binds b⟩
theorem CmtK.cmt (D : CmtK K C mc m qual st) (S : FnScope N ps (defScope st)) (b : BindOk m qual st ps) (len : ∀ vs H Q E, sp vs H Q E → vs.length = ps.length) (hb : ∀ f, BodyOk CX0 P w K mg base N qual st f k sp) : Cmt P w K mg base CX0 (k + 1) C mc m sp :=
  let ⟨p, f, fd, F, r, a⟩ := D.ex
  ⟨p, f, fd, ps, F.ok S len (hb f), r, a, F.binds b⟩
end

section
variable {X : Cx} {k j : Nat} {C : Addr} {mc : Value} {x m : Str} {sp : Sp} {p pos apos : Pos} {e o : Expr} {es : List Expr} {ta : TE} {t : TA}
theorem pe_c (c : Cal X.prog X.w X.K X.mg X.base CX0 k x sp) (hr : Room j X.A) (hk : k ≤ j) (hg : Gl X x) (ha : PA X (e :: es) t)
    (hdb : (x == ("__debug__" : Str)) = false := by decide) (he : starEach (e :: es) X.env = (false, eval e X.env) :: starEach es X.env := by rfl) (hpl : (backTo pos (starEach es X.env)).any (·.1) = false := by rfl) :
    PE X (.Call (.Name x p) (e :: es) [] pos) (tCall sp [] E0 t) := by
  obtain ⟨f, fd, ps, F, hm, kp, b⟩ := c.ex
  exact pe_call F (hr.mono hk) hg hm kp b .nil pass0 ha hdb he hpl
theorem pe_cG (c : CalG X.prog X.w X.K X.mg X.base CX0 k x sp) (g : X.A.guards = some []) (hr : Room j X.A) (hk : k ≤ j) (hg : Gl X x) (ha : PA X (e :: es) t)
    (hdb : (x == ("__debug__" : Str)) = false := by decide) (he : starEach (e :: es) X.env = (false, eval e X.env) :: starEach es X.env := by rfl) (hpl : (backTo pos (starEach es X.env)).any (·.1) = false := by rfl) :
    PE X (.Call (.Name x p) (e :: es) [] pos) (tCall sp [] E0 t) := by
  obtain ⟨f, fd, ps, F, hm, kp, b⟩ := c.ex
  exact pe_callG F g (hr.mono hk) hg hm kp b .nil pass0 ha hdb he hpl
/-- a class that is made by its name -/
structure Mak (P : Program) (w : World) (K : PySem.W.Frag) (mg : Str → Option Value) (base : Heap) (CX : CXT) (k : Nat) (x : Str) (C : Addr) (sp : Sp) : Prop where
  mg_ : mg x = some (.ref C)
  mks : PySem.W.makesIn K C = true
  kp : PySem.W.keepIn K (.ref C) = true
  init : Met P w K mg base CX k C "__init__" sp
theorem pe_mk (c : Mak X.prog X.w X.K X.mg X.base CX0 k x C sp) (hr : Room j X.A) (hk : k + 1 ≤ j) (hg : Gl X x) (ha : PA X (e :: es) t)
    (hdb : (x == ("__debug__" : Str)) = false := by decide) (he : starEach (e :: es) X.env = (false, eval e X.env) :: starEach es X.env := by rfl) (hpl : (backTo pos (starEach es X.env)).any (·.1) = false := by rfl) :
    PE X (.Call (.Name x p) (e :: es) [] pos) (tMake C sp [] E0 t) := by
  obtain ⟨f, fd, ps, F, a, i, kp, b⟩ := c.init.ex
  exact pe_make ⟨c.mks, a, i, c.kp⟩ F (hr.mono hk) hg c.mg_ b .nil pass0 ha hdb he hpl
theorem pe_mkL {i : Nat} (c : Mak X.prog X.w X.K X.mg X.base CX0 k m C sp) (hr : Room j X.A) (hk : k + 1 ≤ j) (hN : X.N[i]? = some x) (hv : Vis X.env.scope x) (ha : PA X (e :: es) t)
    (hdb : (x == ("__debug__" : Str)) = false := by decide) (hcd : (x == ("__classdict__" : Str)) = false := by decide)
    (he : starEach (e :: es) X.env = (false, eval e X.env) :: starEach es X.env := by rfl) (hpl : (backTo pos (starEach es X.env)).any (·.1) = false := by rfl) : PE X (.Call (.Name x p) (e :: es) [] pos) (tMakeL i C sp [] E0 t) := by
  obtain ⟨f, fd, ps, F, a, b', kp, b⟩ := c.init.ex
  exact pe_makeL ⟨c.mks, a, b', c.kp⟩ F (hr.mono hk) hN hv b .nil pass0 ha hdb hcd he hpl
theorem pe_m {pl : Sem Bool} (c : Met X.prog X.w X.K X.mg X.base CX0 k C m sp) (cl : Cls X.K C) (hr : Room j X.A) (hk : k ≤ j) (he : PE X o ta) (ha : PA X (e :: es) t)
    (hst : starEach (e :: es) X.env = (false, eval e X.env) :: starEach es X.env := by rfl) (hpl : (backTo pos (starEach es X.env)).any (·.1) = false := by rfl)
    (ht : eval (.Call (.Attribute o m apos) (e :: es) [] pos) X.env = (do
      let ov ← eval o X.env
      standAt apos.atName
      let (f, first) ← holding [ov] (getMethod ov m pl)
      callWith pos f first (backTo pos (starEach (e :: es) X.env)) (backToKw pos (keywordEach [] X.env))) := by rfl) :
    PE X (.Call (.Attribute o m apos) (e :: es) [] pos) (tMeth C m sp [] E0 ta t) := by
  obtain ⟨f, fd, ps, F, a, i, kp, b⟩ := c.ex
  exact pe_meth (pl := pl) he cl ⟨a, i, kp⟩ F (hr.mono hk) b .nil pass0 ha hst hpl ht
theorem pe_p (c : Prp X.prog X.w X.K X.mg X.base CX0 k C m sp) (cl : Cls X.K C) (hr : Room j X.A) (hk : k + 1 ≤ j) (he : PE X o ta)
    (hab : attributeBase o m X.env (eval o X.env) = eval o X.env := by rfl) : PE X (.Attribute o m pos) (tProp C sp [] E0 ta) := by
  obtain ⟨q, f, fd, ps, F, a, b⟩ := c.ex
  exact pe_prop he cl a F (hr.mono hk) b .nil pass0 hab
theorem op_c {op : CmpOp} {m : Str} (c : Met X.prog X.w X.K X.mg X.base CX0 k C m sp) (hr : Room j X.A) (hk : k ≤ j) (hm : m = (cmpInfo op).2.1 := by rfl)
    (hc : ∀ v u, compareOp op v u = richCompare op v u := by intro _ _; rfl) : OpR X (compareOp op) (rOwn X.K C sp E0) := by
  subst hm
  obtain ⟨f, fd, ps, F, a, i, kp, b⟩ := c.ex
  exact op_own F (hr.mono hk) ⟨a, i⟩ b pass0 hc
theorem op_b {op : Operator} {m : Str} (c : Met X.prog X.w X.K X.mg X.base CX0 k C m sp) (sf : PySem.W.selfFirst X.K C = true) (hr : Room j X.A) (hk : k ≤ j) (hm : m = PySem.dunder op.info.2 := by rfl) : OpR X (binaryOp op) (rOwnB C sp E0) := by
  subst hm
  obtain ⟨f, fd, ps, F, a, i, kp, b⟩ := c.ex
  exact op_ownB F (hr.mono hk) ⟨a, i⟩ sf b pass0
theorem op_in (c : Met X.prog X.w X.K X.mg X.base CX0 k C "__contains__" sp) (hr : Room j X.A) (hk : k ≤ j) : OpR X (compareOp .In) (rOwnIn C sp E0) := by
  obtain ⟨f, fd, ps, F, a, i, kp, b⟩ := c.ex
  exact op_ownIn F (hr.mono hk) ⟨a, i⟩ b pass0
theorem op_notIn (c : Met X.prog X.w X.K X.mg X.base CX0 k C "__contains__" sp) (hr : Room j X.A) (hk : k ≤ j) : OpR X (compareOp .NotIn) (rOwnNotIn C sp E0) := by
  obtain ⟨f, fd, ps, F, a, i, kp, b⟩ := c.ex
  exact op_ownNotIn F (hr.mono hk) ⟨a, i⟩ b pass0
/-- a name of the module, by its value; a built-in type by its name -/
theorem pe_gc {v : V} (hg : Gl X x) (h : ∃ u, X.mg x = some u ∧ L2.RelV v u) (hd : (x == ("__debug__" : Str)) = false := by decide) : PE X (.Name x pos) (tC v) := by
  obtain ⟨u, hm, r⟩ := h
  exact pe_glob hg hm r hd
theorem pe_ty {n : String} (hg : Gl X x) (hm : X.mg x = none) (hv : bootBuiltins x = some (.type n)) (hn : x ≠ "__name__" := by decide) (hd : (x == ("__debug__" : Str)) = false := by decide) : PE X (.Name x pos) (tC (.ty n)) :=
  pe_bltn (v := .ty n) (u := .type n) hg hm hv rfl hn hd
theorem pe_cm0 {pl : Sem Bool} (c : Cmt X.prog X.w X.K X.mg X.base CX0 k C mc m sp) (hr : Room j X.A) (hk : k ≤ j) (he : PE X o ta)
    (ht : eval (.Call (.Attribute o m apos) [] [] pos) X.env = (do
      let ov ← eval o X.env
      standAt apos.atName
      let (f, first) ← holding [ov] (getMethod ov m pl)
      callWith pos f first (backTo pos (starEach [] X.env)) (backToKw pos (keywordEach [] X.env))) := by rfl) :
    PE X (.Call (.Attribute o m apos) [] [] pos) (ClX.tCMeth C (fun vs H Q E => sp (vs ++ []) H Q E) E0 ta tNil) := by
  obtain ⟨q, f, fd, ps, F, r, a, b⟩ := c.ex
  exact pe_cmeth0 (pl := pl) he r a (F.raw b .nil) (hr.mono hk) pass0 ht
end
end Jg

/-! set(xs) of a list of ints -/
namespace Jg
open PySem PySem.Spec PyProof.Rows L2
/-- a set just made -/
def mtSet (w : World) : Obj := { cls := .type "set", dict := none, data := .set #[] 0 (.fresh 0 0 (!w.params.followText "set-order")) }
section
variable {P : Program} {w : World} {A : Around} {E : Value → Shared → Prop} {s : Shared}
/-- what stands behind set(xs): a new set of the ints -/
abbrev SetDone (w : World) (s : Shared) (ns : List Int) (s₂ : Shared) : Prop :=
  ∃ h' tk c, s₂ = { s with heap := h', toks := tk } ∧ SetR w h' s.heap.objs.size (fun j => decide (j ∈ ns)) c ∧ c ≤ ns.length ∧ ∀ b o, s.heap.get? b = some o → h'.get? b = some o
theorem mt_at (w : World) (h : Heap) : (h.push (mtSet w)).get? h.objs.size = some (mtSet w) := Heap.get?_push_size _ rfl
set_option maxHeartbeats 8000000 in
theorem set_of_list {l : Addr} {items : Array Value} (ns : List Int) {Q : Value → Shared → Prop} (hh : A.handled = none) (hl : s.heap.IsList l items) (hit : IntsAre items.toList ns) (hb : ns.length + 1 < scanBound)
    (h : ∀ s₂, SetDone w s ns s₂ → Q (.ref s.heap.objs.size) s₂) : wpAny (model P w) A (call (.type "set") [.ref l]) Q E s := by
  have hsz : items.size = ns.length := (Array.length_toList (xs := items)).symm.trans (IntsAre.length hit)
  obtain ⟨c, tl, hmro⟩ := F.called_set.mro
  have m1 := F.called_set.made
  have m2 := F.called_set.sub
  have m3 := F.called_set.notType
  have m4 := F.called_set.canCreate
  have m5 := F.typeCall_set_1 (.ref l)
  refine wpAny_call (codeAny_of_tree (show wpAny _ _ (callAny (.type "set") _) _ _ _ from wpAny_pure ⟨Code.quiet_builtin _ (by decide +kernel), codeAny_builtin F.entry_type_call ?_⟩))
  rw [Around.under_plain (weight_type_call_type "set" [.ref l] []) rfl]
  repeat (any_goals (first | assumption | wp_step))
  refine codeAny_mono (code_set_led1 (.ref l) (E := E) (Q₁ := fun obj s₁ => obj = .ref s.heap.objs.size ∧ s₁ = { s with heap := s.heap.push (mtSet w) }) ⟨rfl, rfl⟩) fun r s₁ hr => ?_
  match r, hr with
  | .error e, hr => exact hr
  | .ok (.ret obj), hr =>
    obtain ⟨rfl, rfl⟩ := hr
    have new := mt_at w s.heap
    have ty : Shared.TypeIs { s with heap := s.heap.push (mtSet w) } (.ref s.heap.objs.size) "set" := ⟨_, new, rfl⟩
    have m6 := F.called_set.init.lookup
    have m7 := F.called_set.init.bind (.ref s.heap.objs.size)
    repeat (any_goals (first | assumption | wp_step))
    refine codeAny_mono (codeAny_call_builtin (R := wants (fun r s₂ => r = .none ∧ SetDone w s ns s₂) E) F.called_set.init.plain F.entry_set_init (check_set_init_1 ty ?_)) fun r₂ s₂ hr₂ => ?_
    · obtain ⟨⟨ocls, odict, odata, oslots⟩, hol, hcl, nl, hdl⟩ := hl
      simp only at hcl hdl
      subst hcl; subst hdl
      have lt : l < s.heap.objs.size := Heap.lt_size hol
      have old : (s.heap.push (mtSet w)).get? l = some { cls := .type "list", dict := odict, data := .seq items nl, slots := oslots } := Heap.get?_push_of_some _ hol
      have il : (s.heap.push (mtSet w)).IsList l items := ⟨_, old, rfl, nl, rfl⟩
      have n1 := F.sub_list_set
      have n2 := F.sub_list_frozenset
      have n3 : (Value.type "list" == Value.type "dict") = false := by decide
      have sz : (s.heap.push (mtSet w)).objs.size = s.heap.objs.size + 1 := Heap.size_push ..
      unfold Builtin.«set.__init__» noKeywords Builtin.Frozenset.updateFrom
      generalize hPI : pyIter = PI
      wp_walk
      subst hPI
      refine wpAny_pyIter_list il (wpAny_bind (wpAny_runValue ?_))
      have apart : l ≠ (s.heap.push (mtSet w)).objs.size := by rw [sz]; exact Nat.ne_of_lt (Nat.lt_succ_of_lt lt)
      refine set_update_ints (P := P) (w := w) ((Walks.list (show A.in1.in1.in1.handled = none by simp [hh]) _ l apart items).toS) s.heap.objs.size ?_ ns hsz hb (fun i v hv => ?_) (items.size - 0) 0 _ (by omega) (Nat.zero_le _)
        ⟨⟨_, Heap.get?_push_size _ rfl, rfl, rfl⟩, il.push _⟩ ⟨0, Nat.le_refl 0, setR_new_at (Heap.get?_push_of_some _ new)⟩ fun s' c' hm hc' hS' => ?_
      · rw [sz]
        intro z
        rcases List.mem_cons.mp z with z | z
        · exact absurd z (Nat.ne_of_lt (Nat.lt_succ_self _))
        · rcases List.mem_cons.mp z with z | z
          · exact absurd z (Nat.ne_of_gt lt)
          · cases z
      · have hi : i < ns.length := by rw [← hsz]; exact (Array.getElem?_eq_some_iff.mp hv).1
        obtain ⟨t, e⟩ := PyProof.Rows.IntsAre.int_at hit i v (by rw [Array.getElem?_toList]; exact hv)
        exact ⟨ns[i], t, List.getElem?_eq_getElem hi, by rw [e, List.getD_eq_getElem?_getD, List.getElem?_eq_getElem hi] <;> rfl⟩
      · obtain ⟨h', g2, d', tk', os'⟩ := s'
        obtain rfl : g2 = s.gens := hm.gens
        obtain rfl : d' = s.drawn := hm.drawn
        obtain rfl : os' = s.os := hm.os
        refine wpAny_pure (show wpAny _ _ (ret Value.none) _ _ _ from wpAny_pure ⟨rfl, h', tk', c', rfl, hS', by omega, fun b o e => ?_⟩)
        have lb : b < s.heap.objs.size := Heap.lt_size e
        refine hm.heap b o (fun z => ?_) (Heap.get?_push_of_some _ (Heap.get?_push_of_some _ e))
        rcases List.mem_cons.mp z with z | z
        · exact absurd z (Nat.ne_of_lt lb)
        · rcases List.mem_cons.mp z with z | z
          · rw [sz] at z
            exact absurd z (Nat.ne_of_lt (Nat.lt_succ_of_lt lb))
          · cases z
    · match r₂, hr₂ with
      | .error e, hr₂ => exact hr₂
      | .ok (.ret r), hr₂ =>
        obtain ⟨rfl, done⟩ := hr₂
        repeat (any_goals (first | assumption | wp_step))
        exact h _ done
end
/-- set(xs) -/
def rSetL (K : PySem.W.Frag) (w : World) : List V → Hp → VK → Prop := fun xs H Q => ∃ (a : Addr) (ns : List Int), xs = [.ref a] ∧ SqL K H a (ns.map V.int) ∧ ns.length + 1 < scanBound ∧
  ∀ p c, H p = none → c ≤ ns.length → Q (.ref p) (upd H p (SetO w p (fun j => decide (j ∈ ns)) c))
theorem ints_of : ∀ {ns : List Int} {us : List Value}, Vals (ns.map V.int) us → IntsAre us ns
  | [], [], .nil => .nil
  | n :: _, _ :: _, .cons ⟨t, e⟩ r => by
    subst e
    exact .cons n t (ints_of r)
theorem cr_setL {X : Cx} (hc : X.calm = true) : CallR X (.type "set") (rSetL X.K X.w) := by
  intro pins s σ H xs us Q I r h
  obtain ⟨a, ns, rfl, hs, hb, q⟩ := h
  obtain ⟨u, rfl, ru⟩ := vals1 r
  cases ru
  obtain ⟨its, rv, p, hz⟩ := I.list hs
  refine set_of_list ns (I.ok.hd hc) p.isList (by simpa using ints_of rv) hb fun s₂ ⟨h', tk, c, e, R, hc', k⟩ => ?_
  subst e
  exact ⟨.ref s.heap.objs.size, _, I.laid (t' := tk) k (Nat.le_refl _) (setO_new R), rfl, q _ c (I.hok.fresh (Nat.le_refl _)) hc'⟩
end Jg

/-! comprehensions that filter ints: [m for m in .. if test], the test pure -/
namespace Jg
open PySem PySem.Spec PyProof.Rows L2
def win (lo : Int) (n : Nat) : List Int := (List.range n).map fun j => lo + (j : Nat)
theorem win_succ (lo : Int) (n : Nat) : win lo (n + 1) = win lo n ++ [lo + (n : Nat)] := by
  unfold win
  rw [List.range_succ, List.map_append]; rfl
theorem win_len (lo : Int) (n : Nat) : (win lo n).length = n := by unfold win; simp
/-- the shape that a list comprehension's reading asks -/
abbrev LcAsk (J : It) (g : TG) (tt : TT) (te : TE) (vs : List Nat) (σ : L2.St) (H1 : Hp) (D : Addr) (Qd : Hp → Prop) : Prop :=
  ∃ W : Nat → Nat → Hp → Prop, (∃ m, W 0 m (upd H1 D (.lst []))) ∧ ∀ i m H, W i m H →
      (J.stop i H ∧ Qd H) ∨ (J.go i H ∧ ∃ Nx : Hp → Prop, (∀ H', Nx H' → ∃ m', m' < m ∧ W (i + 1) m' H') ∧ ∀ x H', J.yld i H x H' → g x (wipe σ vs) H' fun σ2 H2 => wipe σ2 vs = wipe σ vs ∧ tt σ2 H2 fun b H3 =>
        if b = true then te σ2 H3 fun y H4 => ∃ acc, H4 D = some (.lst acc) ∧ acc.length < sizeLine ∧ Nx (upd H4 D (.lst (acc ++ [y]))) else Nx H3)
section
variable {i : Nat} {tt : TT} {σ : L2.St} {H1 : Hp} {D : Addr} {Qd : Hp → Prop} {vs : List Nat}
theorem filt_step {p : Int → Bool} {ms : List Int} {m : Int} (nD : H1 D = none) (hl : ms.length < 1000) (hw : wipe ((wipe σ vs).set i (some (.int m))) vs = wipe σ vs) (hi : ((wipe σ vs).set i (some (.int m)))[i]? = some (some (.int m)))
    (ht : ∀ H (k : Bool → Hp → Prop), Same H1 H → k (p m) H → tt ((wipe σ vs).set i (some (.int m))) H k) (Pv : Hp → Prop) (hP : Pv (upd H1 D (.lst (((ms ++ [m]).filter p).map V.int)))) :
    gName i (.int m) (wipe σ vs) (upd H1 D (.lst ((ms.filter p).map V.int))) fun σ2 H2 => wipe σ2 vs = wipe σ vs ∧ tt σ2 H2 fun b H3 =>
      if b = true then tVar i σ2 H3 fun y H4 => ∃ acc, H4 D = some (.lst acc) ∧ acc.length < sizeLine ∧ Pv (upd H4 D (.lst (acc ++ [y]))) else Pv H3 := by
  refine ⟨hw, ht _ _ (fun b o e => by rw [upd_ne (ne_of_none e nD)]; exact e) ?_⟩
  have e1 : (ms ++ [m]).filter p = ms.filter p ++ [m].filter p := List.filter_append ..
  cases hp : p m with
  | true =>
    have e2 : [m].filter p = [m] := by simp [List.filter, hp]
    rw [e1, e2, List.map_append] at hP
    refine iteT ⟨.int m, hi, _, upd_same, ?_, ?_⟩
    · rw [List.length_map]
      exact small1000 (Nat.le_trans (List.length_filter_le ..) (Nat.le_of_lt hl))
    · rw [upd_upd]
      exact hP
  | false =>
    have e2 : [m].filter p = [] := by simp [List.filter, hp]
    rw [e1, e2, List.append_nil] at hP
    exact iteF hP
theorem lcf_range {lo : Int} {n : Nat} (p : Int → Bool) (nD : H1 D = none) (hn : n ≤ 900) (hw : ∀ m : Int, wipe ((wipe σ vs).set i (some (.int m))) vs = wipe σ vs) (hi : ∀ m : Int, ((wipe σ vs).set i (some (.int m)))[i]? = some (some (.int m)))
    (ht : ∀ (m : Int) H (k : Bool → Hp → Prop), m ∈ win lo n → Same H1 H → k (p m) H → tt ((wipe σ vs).set i (some (.int m))) H k) (hd : Qd (upd H1 D (.lst (((win lo n).filter p).map V.int)))) :
    LcAsk (Itr lo n) (gName i) tt (tVar i) vs σ H1 D Qd := by
  refine lc_range (lo := lo) (n := n) (fun j H => H = upd H1 D (.lst (((win lo j).filter p).map V.int))) rfl (fun j H hj e => ?_) fun H e => e ▸ hd
  subst e
  have hm : lo + (j : Nat) ∈ win lo n := List.mem_map.mpr ⟨j, List.mem_range.mpr hj, rfl⟩
  exact filt_step (p := p) nD (by rw [win_len]; omega) (hw _) (hi _) (fun H k => ht _ H k hm) (fun H => H = upd H1 D (.lst (((win lo (j + 1)).filter p).map V.int))) (by rw [win_succ])
theorem lcf_list {K : PySem.W.Frag} {a : Addr} {ms : List Int} (p : Int → Bool) (hs : SqL K H1 a (ms.map V.int)) (nD : H1 D = none) (hn : ms.length ≤ 900) (hw : ∀ m : Int, wipe ((wipe σ vs).set i (some (.int m))) vs = wipe σ vs) (hi : ∀ m : Int, ((wipe σ vs).set i (some (.int m)))[i]? = some (some (.int m)))
    (ht : ∀ (m : Int) H (k : Bool → Hp → Prop), m ∈ ms → Same H1 H → k (p m) H → tt ((wipe σ vs).set i (some (.int m))) H k) (hd : Qd (upd H1 D (.lst ((ms.filter p).map V.int)))) :
    LcAsk (Itl K a) (gName i) tt (tVar i) vs σ H1 D Qd := by
  have sn : ∀ o, Same H1 (upd H1 D o) := fun o b u e => by rw [upd_ne (ne_of_none e nD)]; exact e
  refine lc_list (K := K) (a := a) (xs := ms.map V.int) (fun j H => H = upd H1 D (.lst (((ms.take j).filter p).map V.int))) rfl (fun j H _ e => e ▸ (sn _).seq hs) (fun j x H hx e => ?_) fun H e => ?_
  · subst e
    rw [List.getElem?_map] at hx
    cases hm : ms[j]? with
    | none => rw [hm] at hx; cases hx
    | some m =>
      rw [hm] at hx
      cases hx
      have e2 : ms.take (j + 1) = ms.take j ++ [m] := by rw [List.take_add_one, hm]; rfl
      exact filt_step (p := p) nD (by rw [List.length_take]; omega) (hw _) (hi _) (fun H k => ht _ H k (List.mem_of_getElem? hm)) (fun H => H = upd H1 D (.lst (((ms.take (j + 1)).filter p).map V.int))) (by rw [e2])
  · rw [List.length_map, List.take_length] at e
    exact e ▸ hd
end
/-! ### strictly sorted lists of ints -/
theorem sorted_ext : ∀ {xs ys : List Int}, xs.Pairwise (· < ·) → ys.Pairwise (· < ·) → (∀ k, k ∈ xs ↔ k ∈ ys) → xs = ys
  | [], [], _, _, _ => rfl
  | [], y :: ys, _, _, h => absurd ((h y).mpr List.mem_cons_self) (by simp)
  | x :: xs, [], _, _, h => absurd ((h x).mp List.mem_cons_self) (by simp)
  | x :: xs, y :: ys, h1, h2, h => by
    obtain ⟨a1, a2⟩ := List.pairwise_cons.mp h1
    obtain ⟨b1, b2⟩ := List.pairwise_cons.mp h2
    have e : x = y := by
      have m1 := (h x).mp List.mem_cons_self
      have m2 := (h y).mpr List.mem_cons_self
      rcases List.mem_cons.mp m1 with z | z
      · exact z
      · rcases List.mem_cons.mp m2 with z' | z'
        · exact z'.symm
        · have := b1 x z
          have := a1 y z'
          omega
    subst e
    have t : xs = ys := sorted_ext a2 b2 fun k => by
      constructor
      · intro hk
        rcases List.mem_cons.mp ((h k).mp (List.mem_cons_of_mem _ hk)) with z | z
        · have := a1 k hk; omega
        · exact z
      · intro hk
        rcases List.mem_cons.mp ((h k).mpr (List.mem_cons_of_mem _ hk)) with z | z
        · have := b1 k hk; omega
        · exact z
    rw [t]
theorem win_sorted (lo : Int) (n : Nat) : (win lo n).Pairwise (· < ·) := by
  unfold win
  rw [List.pairwise_map]
  exact List.pairwise_lt_range.imp fun h => by omega
theorem mem_win {lo : Int} {n : Nat} {m : Int} : m ∈ win lo n ↔ lo ≤ m ∧ m < lo + n := by
  unfold win
  constructor
  · intro h
    obtain ⟨j, hj, rfl⟩ := List.mem_map.mp h
    have := List.mem_range.mp hj
    omega
  · intro h
    exact List.mem_map.mpr ⟨(m - lo).toNat, List.mem_range.mpr (by omega), by omega⟩
/-- the last item, the first one given -/
def lastOf (x : Int) : List Int → Int
  | [] => x
  | y :: r => lastOf y r
/-- how many there are at most between the first and the last, and when all of them are there -/
theorem tight : ∀ (x : Int) (l : List Int), (x :: l).Pairwise (· < ·) → x ≤ lastOf x l ∧ ((x :: l).length : Int) ≤ lastOf x l - x + 1 ∧ (((x :: l).length : Int) = lastOf x l - x + 1 ↔ ∀ m, x ≤ m → m ≤ lastOf x l → m ∈ x :: l)
  | x, [], _ => by
    refine ⟨Int.le_refl _, by show (1 : Int) ≤ x - x + 1; omega, ⟨fun _ m h1 h2 => ?_, fun _ => by show (1 : Int) = x - x + 1; omega⟩⟩
    have h3 : m ≤ x := h2
    have e : m = x := by omega
    rw [e]; exact List.mem_cons_self
  | x, y :: r, h => by
    obtain ⟨a1, a2⟩ := List.pairwise_cons.mp h
    have hxy := a1 y List.mem_cons_self
    obtain ⟨i1, i2, i3⟩ := tight y r a2
    have el : lastOf x (y :: r) = lastOf y r := rfl
    have en : ((x :: y :: r).length : Int) = ((y :: r).length : Int) + 1 := by simp
    rw [el, en]
    refine ⟨by omega, by omega, ⟨fun e m h1 h2 => ?_, fun q => ?_⟩⟩
    · have e1 : y = x + 1 := by omega
      by_cases c : m = x
      · rw [c]; exact List.mem_cons_self
      · exact List.mem_cons_of_mem _ (i3.mp (by omega) m (by omega) h2)
    · have e1 : y = x + 1 := by
        have m1 := q (x + 1) (by omega) (by omega)
        rcases List.mem_cons.mp m1 with z | z
        · omega
        · rcases List.mem_cons.mp z with z | z
          · exact z.symm
          · have := (List.pairwise_cons.mp a2).1 _ z
            omega
      have e2 := i3.mpr fun m h1 h2 => by
        rcases List.mem_cons.mp (q m (by omega) h2) with z | z
        · omega
        · exact z
      omega
theorem lastOf_get : ∀ (x : Int) (l : List Int), (x :: l)[l.length]? = some (lastOf x l)
  | x, [] => rfl
  | x, y :: r => by
    show (y :: r)[r.length]? = _
    exact lastOf_get y r
end Jg

/-! lists and tuples of ints as data: == and what it asks -/
namespace Jg
open PySem PySem.Spec PyProof.Rows L2
theorem lay_ints : ∀ xs : List Int, PyData.canLayAll0 (xs.map PyData.int) = true
  | [] => rfl
  | x :: xs => by
    show (PyData.canLay0 (.int x) && PyData.canLayAll0 (xs.map PyData.int)) = true
    rw [lay_ints xs]; rfl
theorem depth_ints : ∀ xs : List Int, PyData.depthAll (xs.map PyData.int) = 0
  | [] => rfl
  | x :: xs => by
    show max (PyData.depth (.int x)) (PyData.depthAll (xs.map PyData.int)) = 0
    rw [depth_ints xs]; rfl
theorem shaped_ints (xs : List Int) : SeqAt.shaped (.list (xs.map PyData.int)) = true := by
  show (PyData.canLayAll0 (xs.map PyData.int) && decide (PyData.depthAll (xs.map PyData.int) + 1 ≤ 64)) = true
  rw [lay_ints, depth_ints]; rfl
theorem shaped_tup (xs : List Int) : SeqAt.shaped (.tuple (xs.map PyData.int)) = true := by
  show (PyData.canLayAll0 (xs.map PyData.int) && decide (PyData.depthAll (xs.map PyData.int) + 1 ≤ 64)) = true
  rw [lay_ints, depth_ints]; rfl
theorem eqvAll_ints : ∀ xs ys : List Int, PyData.eqvAll (xs.map PyData.int) (ys.map PyData.int) = decide (xs = ys)
  | [], [] => rfl
  | [], y :: ys => rfl
  | x :: xs, [] => rfl
  | x :: xs, y :: ys => by
    have ih := eqvAll_ints xs ys
    show (PyData.eqv (.int x) (.int y) && PyData.eqvAll (xs.map PyData.int) (ys.map PyData.int)) = _
    rw [ih]
    have e : PyData.eqv (.int x) (.int y) = decide (x = y) := by
      by_cases c : x = y
      · subst c; simp [PyData.eqv]
      · simp [PyData.eqv, c]
    rw [e]
    by_cases c : x = y
    · subst c
      by_cases d : xs = ys
      · subst d; simp
      · simp [d]
    · simp [c]
theorem eqv_ints (xs ys : List Int) : PyData.eqv (.list (xs.map PyData.int)) (.list (ys.map PyData.int)) = decide (xs = ys) := by
  rw [PyData.eqv]; exact eqvAll_ints xs ys
theorem eqv_tup (xs ys : List Int) : PyData.eqv (.tuple (xs.map PyData.int)) (.tuple (ys.map PyData.int)) = decide (xs = ys) := by
  rw [PyData.eqv]; exact eqvAll_ints xs ys
theorem dpAll_ints {K : PySem.W.Frag} {H : Hp} : ∀ xs : List Int, DpAll K H (xs.map V.int) (xs.map PyData.int)
  | [] => .nil
  | x :: xs => .cons (.int x) (dpAll_ints xs)
theorem dp_ints {K : PySem.W.Frag} {H : Hp} {a : Addr} {xs : List Int} (h : SqL K H a (xs.map V.int)) : Dp K H (.ref a) (.list (xs.map PyData.int)) := .lst h (dpAll_ints xs)
theorem dp_tup {K : PySem.W.Frag} {H : Hp} {a : Addr} {xs : List Int} (h : SqT K H a (xs.map V.int)) : Dp K H (.ref a) (.tuple (xs.map PyData.int)) := .tup h (dpAll_ints xs)
/-- == of two lists of ints, of two tuples of ints -/
theorem ask_eqL {K : PySem.W.Frag} {H : Hp} {a b : Addr} {xs ys : List Int} {Q : VK} (h1 : SqL K H a (xs.map V.int)) (h2 : SqL K H b (ys.map V.int)) (q : Q (.bl (decide (xs = ys))) H) : rEqD K (.ref a) (.ref b) H Q :=
  ⟨_, _, dp_ints h1, dp_ints h2, shaped_ints xs, shaped_ints ys, by rw [eqv_ints]; exact q⟩
theorem ask_neL {K : PySem.W.Frag} {H : Hp} {a b : Addr} {xs ys : List Int} {Q : VK} (h1 : SqL K H a (xs.map V.int)) (h2 : SqL K H b (ys.map V.int)) (q : Q (.bl (!decide (xs = ys))) H) : rNeD K (.ref a) (.ref b) H Q :=
  ⟨_, _, dp_ints h1, dp_ints h2, shaped_ints xs, shaped_ints ys, by rw [eqv_ints]; exact q⟩
theorem ask_eqT {K : PySem.W.Frag} {H : Hp} {a b : Addr} {xs ys : List Int} {Q : VK} (h1 : SqT K H a (xs.map V.int)) (h2 : SqT K H b (ys.map V.int)) (q : Q (.bl (decide (xs = ys))) H) : rEqD K (.ref a) (.ref b) H Q :=
  ⟨_, _, dp_tup h1, dp_tup h2, shaped_tup xs, shaped_tup ys, by rw [eqv_tup]; exact q⟩
theorem pair_dec {a b c d : Int} : decide ([a, b] = [c, d]) = decide ((a, b) = (c, d)) := by
  by_cases h : (a, b) = (c, d)
  · cases h; rw [decide_eq_true rfl, decide_eq_true rfl]
  · rw [decide_eq_false h, decide_eq_false fun z => h (by injection z with z1 z2; injection z2 with z2 _; rw [z1, z2])]
/-- x in a list of ints -/
theorem inV_ints {m : Int} : ∀ {xs : List Int}, inV (.int m) (xs.map V.int) = decide (m ∈ xs)
  | [] => rfl
  | x :: xs => by
    have ih := inV_ints (m := m) (xs := xs)
    show (eqV (.int x) (.int m) || inV (.int m) (xs.map V.int)) = _
    rw [ih]
    have e : eqV (.int x) (.int m) = decide (x = m) := by
      by_cases c : x = m
      · subst c; simp [eqV]
      · simp [eqV, c]
    rw [e]
    by_cases c : x = m
    · subst c; simp
    · have c' : ¬ m = x := fun z => c z.symm
      simp [c, c']
theorem flat_ints : ∀ {xs : List Int}, (xs.map V.int).all flatV = true
  | [] => rfl
  | x :: xs => by
    show (flatV (.int x) && (xs.map V.int).all flatV) = true
    rw [flat_ints]; rfl
theorem ask_in {K : PySem.W.Frag} {H : Hp} {a : Addr} {xs : List Int} {m : Int} {Q : VK} (h : SqL K H a (xs.map V.int)) (q : Q (.bl (decide (m ∈ xs))) H) : rIn K false (.int m) (.ref a) H Q :=
  ⟨a, _, rfl, .inl h, rfl, flat_ints, by
    show Q (.bl (inV (.int m) (xs.map V.int))) H
    rw [inV_ints]; exact q⟩
theorem map_cat {K : PySem.W.Frag} {H : Hp} {a : Addr} {xs ys : List Int} (h : SqL K H a (xs.map V.int ++ ys.map V.int)) : SqL K H a ((xs ++ ys).map V.int) := by rw [List.map_append]; exact h
end Jg

/-! try with any number of clauses, named or not, the rest of them perhaps never asked -/
namespace Jg
open PySem PySem.Spec PyProof.Rows L2

/-- an exception a of the class cls, its dict d, lies caught in the frame of X -/
def Caught (X : Cx) (pins : List (Addr × Obj)) (σ : L2.St) (H : Hp) (a : Addr) (cls : Value) (d : Option Addr) (s : Shared) : Prop :=
  ∃ (B : Heap) (s0 : Shared), Inv X pins σ H s0 ∧ (∀ b o, s0.heap.get? b = some o → b ∉ frs X.stack → B.get? b = some o) ∧ s0.heap.UpToSlots s.heap ∧
    HandSPX.FlyingZ B (X.env :: X.outer) a (Zc cls d) s.heap ∧ s.os = s0.os ∧ AllBare s.gens ∧ H a = none
section
variable {X : Cx} {pins : List (Addr × Obj)} {σ : L2.St} {H : Hp} {a : Addr} {cls : Value} {d : Option Addr} {s : Shared}
theorem Caught.inv (c : Caught X pins σ H a cls d s) : Inv X pins σ H s :=
  let ⟨_, _, J, keep, up, fly, os, bare, _⟩ := c
  J.landed keep fly.1 up os bare
theorem Caught.hole (c : Caught X pins σ H a cls d s) : H a = none :=
  let ⟨_, _, _, _, _, _, _, _, z⟩ := c
  z
/-- the place of the exception, and what stands there -/
theorem Caught.place (c : Caught X pins σ H a cls d s) (fr : X.env.frame = some X.env.locals) :
    ∃ oe vs, s.heap.get? a = some oe ∧ Zc cls d oe ∧ oe.data = .fields vs ∧ a ≠ X.env.locals ∧ a ∉ X.fs := by
  obtain ⟨B, s0, J, keep, up, fly, os, bare, z⟩ := c
  obtain ⟨oe, vs, at_, zc, dt⟩ := fly.there
  have out : a ∉ frs (X.env :: X.outer) := fun m => by
    obtain ⟨_, o, at2, no⟩ := fly.2.2.1.mem m
    cases at_.symm.trans at2
    exact no vs dt
  refine ⟨oe, vs, at_, zc, dt, fun e => out ?_, fun m => out ?_⟩
  · rw [e]
    exact List.mem_filterMap.mpr ⟨_, List.mem_cons_self, fr⟩
  · obtain ⟨e, me, fe⟩ := List.mem_filterMap.mp m
    exact List.mem_filterMap.mpr ⟨e, List.mem_cons_of_mem _ me, fe⟩
theorem Caught.again {M : Model} {A : Around} {E : Value → Shared → Prop} {Q : Unit → Shared → Prop} (c : Caught X pins σ H a cls d s) (q : ∀ s', Caught X pins σ H a cls d s' → Q () s') :
    wpAny M A (setFlight (.ref a) .none) Q E s := by
  obtain ⟨B, s0, J, keep, up, fly, os, bare, z⟩ := c
  exact HandSPX.lands_againZ fly fun h' fly' up' => q _ ⟨B, s0, J, keep, up.trans up', fly', os, bare, z⟩
/-- no clause took it: it goes on -/
theorem Caught.goes {W : WX} {Q : Flow → Shared → Prop} {pos : String} (ok : X.Ok) (hs : X.stack = X.env :: X.outer) (fr : X.env.frame = some X.env.locals) (c : Caught X pins σ H a cls d s) (tk : Takes X W) (w : W cls d σ H) :
    wpAny (model X.prog X.w) X.A (passOn pos (.ref a) X.env) Q X.xe s := by
  obtain ⟨B, s0, J, keep, up, fly, os, bare, z⟩ := c
  obtain ⟨_, _, _, oe, vs, T, oT, ts, at_, _, dt, one, _⟩ := id fly
  have last : wpAny (model X.prog X.w) X.A (setFlight (.ref a) X.env.frame) (fun _ s4 => wpAny (model X.prog X.w) X.A (throw (.ref a) : Sem Flow) Q X.xe s4) X.xe s := by
    rw [fr]
    refine HandSPX.setFlight_upZ fly fun h4 held up4 => wpAny_throw (tk _ _ ⟨a, B, s0, pins, σ, H, cls, d, rfl, J, keep, up.trans up4, .inr (.inr ?_), z, os, bare, w⟩)
    rw [hs]
    exact held
  unfold PySem.passOn
  refine wpAny_bind (wpAny_field at_ dt one ?_)
  rw [if_neg (by simp : ¬ ((Value.ref T == Value.none) = true))]
  first
    | exact wpAny_bind (wpAny_pure (wpAny_bind last))
    | exact wpAny_bind last
end

/-- the slot i is free behind what the ends say -/
def gone (i : Nat) (D : Ends) : Ends := { nx := fun σ H => D.nx (σ.set i .none) H, rt := D.rt, bk := fun σ H => D.bk (σ.set i .none) H, ct := fun σ H => D.ct (σ.set i .none) H }
/-- what a row of clauses wishes of the exception -/
inductive Hds (X : Cx) (Wout : WX) : List ExceptHandler → (Ends → WX) → Prop
  | out : Hds X Wout [] fun _ => Wout
  | cut {l : List ExceptHandler} : Hds X Wout l fun _ _ _ _ _ => False
  | named {x n : Str} {c : Value} {i : Nat} {ts : Addr → Value → Option Addr → TS} {b : Stmt} {suite : List Stmt} {np p : Pos} {l : List ExceptHandler} {w : Ends → WX} (hi : X.N[i]? = some n) (hl : X.env.kindOf n = some .local) (hc : Names X x c)
      (body : ∀ (a : Addr) (oe : Obj) (cls : Value) (d : Option Addr) (pn : List (Addr × Obj)), Zc cls d oe → (∃ vs, oe.data = .fields vs) → PSs (X.suite a ((a, oe) :: pn)) (b :: suite) (ts a cls d)) (r : Hds X Wout l w) :
      Hds X Wout (.ExceptHandler (some (.Name x np)) (some n) (b :: suite) p :: l) fun D cls d σ H =>
        ∃ k, PySem.W.exmOne X.K cls c = some k ∧ (k = true → ∀ a, H a = .none → ts a cls d (gone i D) (σ.set i (some (.ref a))) H) ∧ (k = false → w D cls d σ H)
  | plain {x : Str} {c : Value} {ts : Addr → Value → Option Addr → TS} {b : Stmt} {suite : List Stmt} {np p : Pos} {l : List ExceptHandler} {w : Ends → WX} (hc : Names X x c)
      (body : ∀ (a : Addr) (oe : Obj) (cls : Value) (d : Option Addr) (pn : List (Addr × Obj)), Zc cls d oe → (∃ vs, oe.data = .fields vs) → PSs (X.suite a ((a, oe) :: pn)) (b :: suite) (ts a cls d)) (r : Hds X Wout l w) :
      Hds X Wout (.ExceptHandler (some (.Name x np)) none (b :: suite) p :: l) fun D cls d σ H =>
        ∃ k, PySem.W.exmOne X.K cls c = some k ∧ (k = true → ∀ a, H a = .none → ts a cls d D σ H) ∧ (k = false → w D cls d σ H)
section
variable {X : Cx} {Wout : WX}
/-- the test of a clause -/
theorem Caught.test {pins : List (Addr × Obj)} {σ : L2.St} {H : Hp} {a : Addr} {cls c : Value} {d : Option Addr} {s : Shared} {x : Str} {k : Bool} {np p : Pos} {R : Result → Shared → Prop} (t : Caught X pins σ H a cls d s) (fr : X.env.frame = some X.env.locals)
    (hc : Names X x c) (e : PySem.W.exmOne X.K cls c = some k) (q : R (.ok (if k then .brk else .next)) s) :
    codeAny (model X.prog X.w) (X.A.mark (some (.ref a))) (.handlers (.ref a) [.ExceptHandler (some (.Name x np)) none [] p] X.env) R s := by
  obtain ⟨oe, vs, at_, zc, dt, nl, nf⟩ := t.place fr
  have J := t.inv.suite at_ dt t.hole nl nf
  have ty : PySem.W.Looks (model X.prog X.w) s.heap (typeOf (.ref a)) cls := fun A Q E s' keep z => wpAny_typeOf_ref (keep _ _ at_) (by rw [zc.1]; exact z)
  have hit := PySem.W.exm_one (M := model X.prog X.w) t.inv.kIn ty e
  refine codeAny_handlers_test ?_
  obtain ⟨hg, nd, m | ⟨m, v, nn⟩⟩ := hc
  · exact ld_glob J hg m (hit.here q) nd
  · exact ld_blt J hg m v (hit.here q) nn nd
theorem Hds.run {hds : List ExceptHandler} {w : Ends → WX} (hd : Hds X Wout hds w) (hs : X.stack = X.env :: X.outer) (fr : X.env.frame = some X.env.locals) (hN : X.N.Nodup) (tk : Takes X Wout)
    {pins : List (Addr × Obj)} {σ : L2.St} {H : Hp} {a : Addr} {cls : Value} {d : Option Addr} {s : Shared} {D : Ends} (t : Caught X pins σ H a cls d s) (h : w D cls d σ H) :
    wpAny (model X.prog X.w) X.A (handleBy (.ref a) X.env hds) (SP X pins D) X.xe s := by
  have ok := t.inv.ok
  induction hd with
  | out => exact wpAny_handleBy_nil (t.goes ok hs fr tk h)
  | cut => exact h.elim
  | @named x n c i ts b suite np p l w hi hl hc body r ih =>
    obtain ⟨k, e, yes, no⟩ := h
    refine wpAny_handleBy_cons ?_ (fun z => nomatch z)
    refine t.test fr hc e ?_
    cases k with
    | false => exact ih (no rfl)
    | true =>
      refine codeAny_handlers_suite_as (t.again fun s2 t2 => ?_)
      obtain ⟨oe, vs, at_, zc, dt, nl, nf⟩ := t2.place fr
      have J := t2.inv.suite at_ dt t2.hole nl nf
      refine store_ok (X := X.suite a ((a, oe) :: (X.pn ++ pins))) (v := .ref a) J hN hi (.inl hl) rfl (fun s3 J3 => ?_) (.inr hl)
      refine wpAny_mono ((body a oe cls d _ zc ⟨vs, dt⟩).run [] s3 _ H _ J3 (yes rfl a t2.hole)) (fun f s4 z => ?_) fun _ _ z => z.elim
      have off : ∀ {σ4 : L2.St} {H4 : Hp} {Q : Shared → Prop}, Inv (X.suite a ((a, oe) :: (X.pn ++ pins))) [] σ4 H4 s4 → (∀ s5, Inv X pins (σ4.set i .none) H4 s5 → Q s5) →
          wpAny (model X.prog X.w) X.A (do bindName X.env n .none; unbindBehindTheSuite X.env n p) (fun _ s5 => Q s5) X.xe s4 := fun J4 q => gone_ok (J4.unsuite ok) hN hi hl q
      match f, z with
      | .next, ⟨_, _, J4, q⟩ => exact off J4 fun s5 J5 => ⟨_, _, J5, q⟩
      | .brk, ⟨_, _, J4, q⟩ => exact off J4 fun s5 J5 => ⟨_, _, J5, q⟩
      | .cont, ⟨_, _, J4, q⟩ => exact off J4 fun s5 J5 => ⟨_, _, J5, q⟩
      | .ret u, ⟨_, _, _, J4, rv, q⟩ => exact off J4 fun s5 J5 => ⟨_, _, _, J5, rv, q⟩
  | @plain x c ts b suite np p l w hc body r ih =>
    obtain ⟨k, e, yes, no⟩ := h
    refine wpAny_handleBy_cons ?_ (fun z => nomatch z)
    refine t.test fr hc e ?_
    cases k with
    | false => exact ih (no rfl)
    | true =>
      refine codeAny_handlers_suite (t.again fun s2 t2 => ?_)
      obtain ⟨oe, vs, at_, zc, dt, nl, nf⟩ := t2.place fr
      have J := t2.inv.suite at_ dt t2.hole nl nf
      refine wpAny_mono ((body a oe cls d _ zc ⟨vs, dt⟩).run [] s2 _ H _ J (yes rfl a t2.hole)) (fun f s4 z => ?_) fun _ _ z => z.elim
      match f, z with
      | .next, ⟨_, _, J4, q⟩ => exact ⟨_, _, J4.unsuite ok, q⟩
      | .brk, ⟨_, _, J4, q⟩ => exact ⟨_, _, J4.unsuite ok, q⟩
      | .cont, ⟨_, _, J4, q⟩ => exact ⟨_, _, J4.unsuite ok, q⟩
      | .ret u, ⟨_, _, _, J4, rv, q⟩ => exact ⟨_, _, _, J4.unsuite ok, rv, q⟩
/-- try: body / clauses -/
theorem ps_try {body : List Stmt} {h₀ : ExceptHandler} {hds : List ExceptHandler} {w : Ends → WX} {pos : Pos} {tb : WX → TS} (hd : Hds X Wout (h₀ :: hds) w) (hs : X.stack = X.env :: X.outer) (fr : X.env.frame = some X.env.locals) (hN : X.N.Nodup) (tk : Takes X Wout)
    (hb : ∀ (W : WX) (pn : List (Addr × Obj)) (xe : Value → Shared → Prop), Takes (X.tr pn xe) W → PassesOwn (model X.prog X.w) X.A X.env xe → PSs (X.tr pn xe) body (tb W)) :
    PS X (.Try body (h₀ :: hds) [] [] pos) fun D σ H => tb (w D) D σ H := by
  refine ⟨fun pins s σ H D I h => wpAny_Try_except ?_⟩
  have ok := I.ok
  let xe : Value → Shared → Prop := fun e s1 => wpAny (model X.prog X.w) X.A (noteFrame e X.env) (fun _ s2 => wpAny (model X.prog X.w) X.A (setFlight e .none) (fun _ s3 => wpAny (model X.prog X.w) X.A (handleBy e X.env (h₀ :: hds)) (SP X pins D) X.xe s3) X.xe s2) X.xe s1
  have tkb : Takes (X.tr (X.pn ++ pins) xe) (w D) := by
    rintro u s1 ⟨a, B, s0, pins', σ1, H1, cls, d, rfl, J', keep, up, sky, z, os, bare, wd⟩
    have J : Inv X pins σ1 H1 s0 := J'.ofTry ok
    have fl : Sky B (X.env :: X.outer) a (Zc cls d) X.env.locals s1.heap := by rw [← hs]; exact sky
    show wpAny (model X.prog X.w) X.A (noteFrame (.ref a) X.env) _ _ _
    refine Sky.land Zc.steady (by rw [ok.frames, hs]) fr fl fun h3 fly up3 => ?_
    exact hd.run hs fr hN tk ⟨B, s0, J, keep, up.trans up3, fly, os, bare, z⟩ wd
  refine wpAny_mono ((hb (w D) (X.pn ++ pins) xe tkb PassesOwn.looking).run [] s σ H D (I.toTry xe) h) (fun f s1 z => ?_) fun _ _ z => z
  match f, z with
  | .next, ⟨_, _, J, q⟩ => exact wpAny_execs_nil ⟨_, _, J.ofTry ok, q⟩
  | .brk, ⟨_, _, J, q⟩ => exact ⟨_, _, J.ofTry ok, q⟩
  | .cont, ⟨_, _, J, q⟩ => exact ⟨_, _, J.ofTry ok, q⟩
  | .ret u, ⟨_, _, _, J, rv, q⟩ => exact ⟨_, _, _, J.ofTry ok, rv, q⟩
end

/-! ### what may raise: called at the slots as they stand -/
/-- C(..) whose __init__ may let an exception out -/
def tMakeS (C : Addr) (sp : Sp) (E : L2.St → XK) (t : TA) : TE := fun σ H Q => t σ H fun vs H1 => ∀ x dx, H1 x = none → H1 dx = none → dx ≠ x →
  sp (.ref x :: vs) (upd (upd H1 dx (.own x)) x (.ins C dx [])) (fun v H2 => v = .non ∧ Q (.ref x) H2) (E σ)
section
variable {X : Cx} {k j : Nat} {C : Addr} {x m : Str} {sp : Sp} {W : WX} {p pos : Pos} {e : Expr} {es : List Expr} {t : TA}
theorem pe_cS (c : Cal X.prog X.w X.K X.mg X.base (L2.CX X.prog X.w) k x sp) (tk : Takes X W) (hr : Room j X.A) (hk : k ≤ j) (hg : Gl X x) (ha : PA X (e :: es) t)
    (hdb : (x == ("__debug__" : Str)) = false := by decide) (he : starEach (e :: es) X.env = (false, eval e X.env) :: starEach es X.env := by rfl) (hpl : (backTo pos (starEach es X.env)).any (·.1) = false := by rfl) :
    PE X (.Call (.Name x p) (e :: es) [] pos) (tCallS sp (WE W) t) := by
  obtain ⟨f, fd, ps, F, hm, kp, b⟩ := c.ex
  exact pe_callS F (hr.mono hk) hg hm kp b (passAt tk) ha hdb he hpl
theorem pe_mkS (c : Mak X.prog X.w X.K X.mg X.base (L2.CX X.prog X.w) k x C sp) (tk : Takes X W) (hr : Room j X.A) (hk : k + 1 ≤ j) (hg : Gl X x) (ha : PA X (e :: es) t)
    (hdb : (x == ("__debug__" : Str)) = false := by decide) (he : starEach (e :: es) X.env = (false, eval e X.env) :: starEach es X.env := by rfl) (hpl : (backTo pos (starEach es X.env)).any (·.1) = false := by rfl) :
    PE X (.Call (.Name x p) (e :: es) [] pos) (tMakeS C sp (WE W) t) := by
  obtain ⟨f, fd, ps, F, ini, fn, kp, b⟩ := c.init.ex
  refine ⟨fun pins s σ H Q I h => wpAny_Call_Name_kw (ld_glob I hg c.mg_ (PySem.W.callWith_K (h₀ := X.base) I.ok.mod.kin c.kp (thn (ha.run pos pins s σ H _ I h) fun us s1 ⟨vs, H1, J, r, q⟩ => ⟨J.kIn, ?_⟩) he hpl) hdb)⟩
  have q1 := q (s1.heap.objs.size + 1) s1.heap.objs.size (J.hok.fresh (Nat.le_succ _)) (J.hok.fresh (Nat.le_refl _)) (Nat.ne_of_lt (Nat.lt_succ_self _))
  have J2 := Inv.made (C := C) J
  have r2 : Vals (V.ref (s1.heap.objs.size + 1) :: vs) (Value.ref (s1.heap.objs.size + 1) :: us) := .cons rfl r
  have ln : (Value.ref (s1.heap.objs.size + 1) :: us).length = ps.length := r2.length.symm.trans (F.len _ _ _ _ q1)
  have bd := b _ (Value.ref (s1.heap.objs.size + 1) :: us) J2.kIn (by rw [List.append_nil]; exact ln)
  rw [List.append_nil] at bd
  have run := F.run _ X.stack _ _ ⟨Value.ref (s1.heap.objs.size + 1) :: us, []⟩ _ _ _ (WE W σ) ((hr.mono hk).make C us []) (J2.env0.make C us []) bd r2 q1
  show wpAny (model X.prog X.w) X.A (call (.ref C) us) (EP X pins σ Q) X.xe s1
  refine wpAny_call (make_map (f := f) J.kIn c.mks ini (beq_iff_eq.mp fn) (codeAny_mono run fun o s2 z => ?_))
  match o, z with
  | .error err, z => exact passAt tk σ pins _ _ err s2 J2 z
  | .ok (.ret u), z =>
    obtain ⟨v, H2, J3, rv, ev, q3⟩ := J2.after z
    subst ev
    exact ⟨rv, V.ref (s1.heap.objs.size + 1), H2, J3, rfl, q3⟩
end
section
variable {P : Program} {w : World} {K : PySem.W.Frag} {mg : Str → Option Value} {base : Heap} {k : Nat} {C : Addr} {x m qual : Str} {st : Stmt} {N ps : List Str} {sp : Sp}
/-- what a body that may raise must show -/
def BodyX (P : Program) (w : World) (K : PySem.W.Frag) (mg : Str → Option Value) (base : Heap) (N : List Str) (qual : Str) (st : Stmt) (f : Addr) (k : Nat) (sp : Sp) : Prop :=
  ∀ (cdv : Value) (A : Around) (outer : List Env) (s : Shared) (H : Hp) (vs : List V) (Q : VK) (E : XK), Room k (A.deeper (envOfC qual (defScope st) s.heap.objs.size f cdv)) → sp vs H Q E →
      ∃ t, PSs (cxOf (L2.CX P w) P w K mg base N qual (defScope st) f cdv A outer s H E) (defBody st) t ∧ t { nx := fun _ H' => Q .non H', rt := Q } (start N vs) H
theorem DefK.calX (D : DefK K mg x st) (S : FnScope N ps (defScope st)) (b : BindOk x x st ps) (len : ∀ vs H Q E, sp vs H Q E → vs.length = ps.length) (hb : ∀ f, BodyX P w K mg base N x st f k sp) : Cal P w K mg base (L2.CX P w) (k + 1) x sp :=
  let ⟨f, fd, F, m⟩ := D.ex
  ⟨f, fd, ps, F.okX S len (hb f), m, F.kp, F.binds b⟩
theorem MetK.metX (D : MetK K C m qual st) (S : FnScope N ps (defScope st)) (b : BindOk m qual st ps) (len : ∀ vs H Q E, sp vs H Q E → vs.length = ps.length) (hb : ∀ f, BodyX P w K mg base N qual st f k sp) : Met P w K mg base (L2.CX P w) (k + 1) C m sp :=
  let ⟨f, fd, F, a, i⟩ := D.ex
  ⟨f, fd, ps, F.okX S len (hb f), a, i, F.kp, F.binds b⟩
end
/-! ### an exception class of the program with an own __init__ -/
structure Exn (P : Program) (w : World) (K : PySem.W.Frag) (mg : Str → Option Value) (base : Heap) (k : Nat) (x : Str) (C : Addr) (sp : Sp) : Prop where
  mg_ : mg x = some (.ref C)
  cls : OexC K C
  init : ∃ fI fd ps, FnOk P w K mg base CX0 k fI fd ps sp ∧ PySem.W.findIn K (.ref C) "__init__" = some (some (.ref fI)) ∧ PySem.W.typeIn K (.ref fI) = some (.type "function") ∧ Binds K fd ps []
theorem pmk_x {X : Cx} {k j : Nat} {C : Addr} {x : Str} {sp : Sp} {p pos : Pos} {e : Expr} {es : List Expr} {t : TA} (c : Exn X.prog X.w X.K X.mg X.base k x C sp) (hr : Room j X.A) (hk : k + 1 ≤ j) (hg : Gl X x) (ha : PA X (e :: es) t)
    (hdb : (x == ("__debug__" : Str)) = false := by decide) (he : starEach (e :: es) X.env = (false, eval e X.env) :: starEach es X.env := by rfl) (hpl : (backTo pos (starEach es X.env)).any (·.1) = false := by rfl) :
    PMk X (.Call (.Name x p) (e :: es) [] pos) (tMkO C sp [] t) := by
  obtain ⟨fI, fd, ps, F, a, ty, b⟩ := c.init
  exact pmk_oex c.cls a ty F (hr.mono hk) b .nil pass0 hg c.mg_ ha hdb he hpl

/-- __init__ that keeps its one argument in the field f -/
def spX (C : Addr) (f : Str) : Sp := fun vs H Q _ => ∃ a y, vs = [.ref a, y] ∧ H a = some (exo a C none) ∧ ∀ dx, H dx = none → dx ≠ a → Q .non (upd (upd H dx (exd dx [(f, y)])) a (exo a C (some dx)))
/-- .. called: the exception's dict is new, all else stays -/
theorem x_read {C : Addr} {f : Str} {y : V} {H : Hp} {Q : XK} (h : ∀ d, H d = none → Q (.ref C) (some d) (upd H d (.xd [(f, y)]))) : ([y] : List V).length ≤ 1000 ∧ ∀ a, H a = none → spX C f (.ref a :: ([y] ++ [])) (upd H a (exo a C none))
    (fun v H2 => v = .non ∧ ∃ (d : Addr) (fs : List (Str × V)), H2 a = some (exo a C (some d)) ∧ H2 d = some (exd d fs) ∧ H d = none ∧ Q (.ref C) (some d) (upd (del H2 a) d (.xd fs))) fun _ _ _ => False := by
  refine ⟨by show 1 ≤ 1000; decide, fun a na => ⟨a, y, rfl, upd_same, fun dx nd ne => ⟨rfl, dx, [(f, y)], upd_same, ?_, ?_, ?_⟩⟩⟩
  · rw [upd_ne ne, upd_same]
  · rw [upd_ne ne] at nd
    exact nd
  · have nd' : H dx = none := by rw [upd_ne ne] at nd; exact nd
    have e : upd (del (upd (upd (upd H a (exo a C none)) dx (exd dx [(f, y)])) a (exo a C (some dx))) a) dx (.xd [(f, y)]) = upd H dx (.xd [(f, y)]) := by
      funext b
      by_cases c1 : b = dx
      · rw [c1, upd_same, upd_same]
      · rw [upd_ne c1, upd_ne c1]
        by_cases c2 : b = a
        · rw [c2, del_same, na]
        · rw [del_ne c2, upd_ne c2, upd_ne c1, upd_ne c2]
    rw [e]
    exact h dx nd'
/-- what the class of a caught exception must say, for its fields and for isinstance -/
structure ExcK (K : PySem.W.Frag) (C : Addr) : Prop where
  xf : XfC K C
  ha : PySem.W.findIn K (.ref C) "__class__" = some (some (.builtin "object.__class__"))
  hn : PySem.W.specialIn K (.builtin "object.__class__") "__get__" = some (some (.builtin "getset_descriptor.__get__"))
  ht : PySem.W.takesIn K (.builtin "object.__class__") = some true
  hm : PySem.W.mroIn K C (.type "object") = some true
section
variable {X : Cx} {a C : Addr} {oe : Obj} {cls : Value} {d : Option Addr} {pn : List (Addr × Obj)}
/-- isinstance(e, c) of a caught exception with a dict -/
def rIsX (K : PySem.W.Frag) (cls : Value) (C a : Addr) (d : Option Addr) : List V → Hp → VK → Prop := fun xs H Q => ∃ (c : V) (cv : Value) (b : Bool) (dd : Addr) (fs : List (Str × V)), xs = [.ref a, c] ∧ cls = .ref C ∧ d = some dd ∧ H dd = some (.xd fs) ∧ (∀ u, RelV c u → u = cv) ∧ PySem.W.kitOne K (.ref C) cv = some b ∧ Q (.bl b) H
theorem exc_inst {pins : List (Addr × Obj)} {σ : L2.St} {H : Hp} {s : Shared} {dd : Addr} {fs : List (Str × V)} (I : Inv (X.suite a ((a, oe) :: pn)) pins σ H s) (hz : Zc (.ref C) (some dd) oe) (hf : ∃ vs, oe.data = .fields vs) (e : H dd = some (.xd fs)) : ∃ od, PySem.W.InstAt s.heap a oe C (some od) := by
  obtain ⟨mA, ns, _⟩ := I.hok dd _ e
  obtain ⟨od, at2, _⟩ := lookIn_ns ns
  obtain ⟨at1, _⟩ := I.pin (a, oe) (List.mem_append_left _ List.mem_cons_self)
  obtain ⟨vs, dt⟩ := hf
  exact ⟨od, at1, hz.1, by unfold PySem.W.notCls; rw [dt] <;> rfl, by rw [hz.2]; exact at2⟩
theorem call_isX (T : ExcK X.K C) (hz : Zc cls d oe) (hf : ∃ vs, oe.data = .fields vs) : CallR (X.suite a ((a, oe) :: pn)) (.builtin "isinstance") (rIsX X.K cls C a d) := by
  intro pins s σ H xs us Q I r h
  obtain ⟨c, cv, b, dd, fs, rfl, rfl, rfl, e, hc, k, q⟩ := h
  cases r with
  | cons r1 r2 =>
    cases r2 with
    | cons r3 r4 =>
      cases r4
      cases r1
      have ec := hc _ r3
      subst ec
      obtain ⟨od, J⟩ := exc_inst I hz hf e
      have cl : (PySem.W.clsIn X.K C).isSome = true := by
        obtain ⟨cd, z, _⟩ := PySem.W.any_some T.xf.hdC
        rw [z]; rfl
      exact PySem.W.kia_one (PySem.W.kitx_exc cl T.xf.ga T.xf.gg T.xf.exC T.ha T.hn T.ht T.hm) I.kIn J k (fun z => nomatch z) fun tk => ⟨.bl b, H, I.kept (t' := tk) fun _ _ z => z, rfl, q⟩
end
end Jg

/-! repr of any value that is data -/
namespace Jg
open PySem PySem.Spec PyProof.Rows L2
/-- v is shown as x -/
inductive Shw (K : PySem.W.Frag) (H : Hp) : V → Str → Prop
  | non : Shw K H .non "None"
  | bl (b : Bool) : Shw K H (.bl b) (if b then "True" else "False")
  | int (i : Int) (h : i.natAbs.log2 < 1920) : Shw K H (.int i) (toString i)
  | str (x : Str) (h : (reprText x).length ≤ sizeLine) : Shw K H (.str x) (reprText x)
  | dat {a : Addr} {d : PyData} (h : Dp K H (.ref a) d) (s : d.showable = true) (dp : d.depth ≤ 40) (z : d.shown.length ≤ sizeLine) : Shw K H (.ref a) d.shown
  | dnew {a : Addr} (h : H a = some (.dK [])) : Shw K H (.ref a) (PyData.dict []).shown
theorem Shw.keep {K : PySem.W.Frag} {H H' : Hp} {v : V} {x : Str} (s : Shw K H v x) (k : ∀ d, Dp K H v d → Dp K H' v d) (k2 : ∀ a, H a = some (.dK []) → H' a = some (.dK [])) : Shw K H' v x := by
  cases s with
  | non => exact .non
  | bl b => exact .bl b
  | int i h => exact .int i h
  | str x h => exact .str x h
  | dat h s dp z => exact .dat (k _ h) s dp z
  | dnew h => exact .dnew (k2 _ h)
def rShw (K : PySem.W.Frag) : List V → Hp → VK → Prop := fun xs H Q => ∃ v x, xs = [v] ∧ Shw K H v x ∧ Q (.str x) H
section
variable {X : Cx}
theorem dk_nil {P : Program} {w : World} {H : Hp} {h : Heap} {a : Addr} (ok : HOk P w H h) (e : H a = some (.dK [])) : ∃ as, Reads h (.ref a) (.dict []) as ∧ sysModules ∉ as := by
  obtain ⟨_, na, vs, kv, o, es, n, at_, ex, dt, _, pr, _⟩ := ok a _ e
  cases kv
  have e0 : es.toList = [] := by
    revert pr
    generalize es.toList = l
    intro pr
    cases pr
    rfl
  have r1 : ReadsAll h (es.toList.map (·.key)) (([] : List (PyData × PyData)).map (·.1)) [] := by rw [e0]; exact ReadsAll.nil
  have r2 : ReadsAll h (es.toList.map (·.val)) (([] : List (PyData × PyData)).map (·.2)) [] := by rw [e0]; exact ReadsAll.nil
  refine ⟨_, Reads.dict at_ ex.1 dt r1 r2, fun m => ?_⟩
  have z : sysModules = a := by simpa using m
  rw [← z] at na
  cases na
theorem call_shw (g : X.A.guards = some []) (hu : X.A.units + 64 < cLine) : CallR X (.builtin "repr") (rShw X.K) := by
  intro pins s σ H xs us Q I r h
  obtain ⟨v, x, rfl, sh, q⟩ := h
  obtain ⟨u, rfl, ru⟩ := vals1 r
  cases sh with
  | non => cases ru; exact PySem.P.repr_of_none ⟨.str _, H, I.tok _, ⟨_, rfl⟩, q⟩
  | bl b => cases ru; exact PySem.P.repr_of_bool ⟨.str _, H, I.tok _, ⟨_, rfl⟩, q⟩
  | int i hz => obtain ⟨t, rfl⟩ := ru; exact PySem.P.repr_of_int hz ⟨.str _, H, I.tok _, ⟨_, rfl⟩, q⟩
  | str y hz => obtain ⟨t, rfl⟩ := ru; exact PySem.P.repr_of_str ⟨.str _, H, I.tok _, ⟨_, rfl⟩, q⟩ hz
  | dat hd hs dp hz =>
    cases ru
    obtain ⟨as, R⟩ := Dp.reads I _ _ (.ref _) hd rfl
    exact repr_of_reads' R hs (PyData.noDict_hsm (noDict _ _ _ _ hd)) g (by omega) (fun _ _ e => e) (fun h' u tk hk => ⟨.str _, H, I.kept hk, ⟨_, rfl⟩, q⟩) hz
  | dnew e =>
    cases ru
    obtain ⟨as, R, na⟩ := dk_nil I.hok e
    have dp : (PyData.dict []).depth ≤ 40 := by decide +kernel
    exact repr_of_reads' R (by decide +kernel) (fun _ => na) g (by omega) (fun _ _ e => e) (fun h' u tk hk => ⟨.str _, H, I.kept hk, ⟨_, rfl⟩, q⟩) (by decide +kernel)
end
end Jg

namespace Jg
open PySem PySem.Spec PyProof.Rows L2
theorem bool_in {prog : Program} {w : World} (x : Value) : MeetsIn prog w (Builtin.«bool.__new__» ⟨[.type "bool", x], []⟩) fun A R s => wpAny (model prog w) A.in1 (truthy x) (fun b s' => R (.ok (.ret (.bool b))) s') (fun e s' => R (.error e) s') s := by
  intro A R s h
  have f1 := F.conv_sub_bool
  unfold Builtin.«bool.__new__»
  repeat (any_goals (first | assumption | wp_step))
  all_goals (show wpAny (model prog w) A.in1 (truthy x) _ _ s; exact wpAny_mono h (fun b s' z => wpAny_pure z) fun _ _ z => z)
/-- bool(x) of an instance with an own __bool__ -/
def rBoolO (C : Addr) (sp : Sp) (E : XK) : List V → Hp → VK → Prop := fun xs H Q => ∃ a dx fs, xs = [.ref a] ∧ H a = some (.ins C dx fs) ∧ sp [.ref a] H (fun v H' => ∃ b, v = .bl b ∧ Q (.bl b) H') E
theorem call_boolO {X : Cx} {k j : Nat} {C : Addr} {sp : Sp} (c : Met X.prog X.w X.K X.mg X.base CX0 k C "__bool__" sp) (hr : Room j X.A) (hk : k + 2 ≤ j) : CallR X (.type "bool") (rBoolO C sp E0) := by
  intro pins s σ H xs us Q I r h
  obtain ⟨a, dx, fs, rfl, ea, q⟩ := h
  obtain rfl := Vals.ref1 r
  obtain ⟨f, fd, ps, F, ini, fn, kp, b⟩ := c.ex
  obtain ⟨mA, J, _⟩ := ins_get I.hok ea
  obtain ⟨od, J, _⟩ := J.look
  obtain ⟨m, hF⟩ := I.fr
  have rv : Vals [V.ref a] [Value.ref a] := .cons rfl .nil
  have ln : [Value.ref a].length = ps.length := rv.length.symm.trans (F.len _ _ _ _ q)
  have bd := b s [Value.ref a] I.kIn (by rw [List.append_nil]; exact ln)
  rw [List.append_nil] at bd
  have rm : Room (k + 2) X.A := hr.mono hk
  have run := F.run X.A.in1.in1 X.stack s H ⟨[Value.ref a], []⟩ _ _ _ E0 rm.in1.in1 I.env0.in1.in1 bd rv q
  refine callType_newIn PySem.F.called_bool PySem.F.newNe_bool (PySem.F.typeCall_bool_1 _) (PySem.F.newCall_bool_1 _) (fun obj => PySem.F.args_object_init_2 obj _) PySem.F.entry_bool_new (bool_in _) ?_
  refine PySem.W.truthy_K hF I.ok.mod.kin J ini fn (wpAny_call (codeAny_mono run fun o s2 z => ?_))
  match o, z with
  | .error err, z => exact z.elim
  | .ok (.ret u), z =>
    obtain ⟨v, H2, J3, rv3, bb, rfl, q3⟩ := I.after z
    cases rv3
    exact ⟨PySem.typeIs_bool _ _, .bl bb, H2, J3, rfl, q3⟩
end Jg

/-! own exceptions over any built-in one; methods and classes with keywords that may raise, at the slots as they stand -/
namespace Jg
open PySem PySem.Spec PyProof.Rows L2

/-- the class at C stands over the built-in exception B -/
structure OvB (K : PySem.W.Frag) (C : Addr) (B nid iid : String) (line : List Value) : Prop where
  fB : ExcBaseFacts B nid iid line
  sB : StoreFacts B line "object.__setattr__" "object"
  ini : PySem.W.excInitIn K C line nid = true
  ovr : PySem.W.excOver K C line = true
  hd : PySem.W.hasDictIn K C = true
  sa : PySem.W.findIn K (.ref C) "__setattr__" = some (some (.builtin "object.__setattr__"))
  exC : PySem.W.subIn K (.ref C) (.type "BaseException") = some true
  tyC : PySem.W.typeIn K (.ref C) = some (.type "type")
  kC : PySem.W.keepIn K (.ref C) = true
def Ovr (K : PySem.W.Frag) (C : Addr) : Prop := ∃ B nid iid line, OvB K C B nid iid line
theorem taker0 {K : PySem.W.Frag} {C : Addr} {f : Str} (h : PySem.W.findIn K (.ref C) f = some none) : PySem.W.takerIn K C f = some none := by
  unfold PySem.W.takerIn
  rw [h]
  rfl
section
variable {X : Cx} {pins : List (Addr × Obj)} {σ : L2.St} {H : Hp} {s : Shared} {a C : Addr} {f : Str} {y : V} {u : Value} {Q : Unit → Shared → Prop} {E : Value → Shared → Prop} {A : Around}
/-- the first field of an exception that is being made: its dict comes to be -/
theorem keep_first (T : Ovr X.K C) (I : Inv X pins σ H s) (e : H a = some (exo a C none)) (no : PySem.W.findIn X.K (.ref C) f = some none) (ry : RelV y u)
    (h : ∀ dx s', H dx = none → dx ≠ a → Inv X pins σ (upd (upd H dx (exd dx [(f, y)])) a (exo a C (some dx))) s' → Q () s') : wpAny (model X.prog X.w) A (setAttr (.ref a) f u) Q E s := by
  obtain ⟨B, nid, iid, line, T⟩ := T
  obtain ⟨t1, ho⟩ := exo_at I.hok e
  obtain ⟨cd, hc, hdd⟩ := PySem.W.any_some T.hd
  have kin := I.kIn
  obtain ⟨hp, g, d, t, os⟩ := s
  refine PySem.W.set_plain (ox := PySem.W.excObj C t1 none .none) (od := none) kin ⟨ho, rfl, rfl, trivial⟩ T.sa ?_
  refine PySem.W.osa_openX (od := none) T.sB kin ⟨ho, rfl, rfl, trivial⟩ T.ovr (taker0 no) fun b => ?_
  refine wpAny_bind (wpAny_pure (wpAny_bind (PySem.W.instanceDict_exc ho (PySem.W.looks_clsIn kin hc) hdd ?_)))
  have below : a < hp.objs.size := Heap.lt_size ho
  have apart : a ≠ hp.objs.size := Nat.ne_of_lt below
  have ho2 : (hp.push (PySem.W.dictOf [] 0)).get? a = some (PySem.W.excObj C t1 none .none) := Heap.get?_push_of_some _ ho
  show wpAny _ _ (Builtin.ObjectAttr.storeInDict hp.objs.size (.str f _) f u) _ _ _
  refine HandSPX.store_in_new ⟨_, #[], _, (Heap.get?_update_ne _ _ _ _ apart.symm).trans (Heap.get?_push_at rfl rfl), rfl, fun _ z => absurd z (by simp), fun _ => rfl⟩ fun h2 tk2 ns1 same => ?_
  -- the dict first, then the exception
  obtain ⟨od, es, ep, hod, rest⟩ := id ns1
  have ha2 : h2.get? a = some (PySem.W.excObj C t1 (some hp.objs.size) .none) := (same.2 a apart).trans (Heap.get?_update_self _ ho2 rfl)
  have stays : ∀ c o, c ≠ a → hp.get? c = some o → h2.get? c = some o := fun c o n z =>
    (same.2 c (Nat.ne_of_lt (Heap.lt_size z))).trans ((Heap.get?_update_ne _ _ _ _ n).trans (Heap.get?_push_of_some _ z))
  have nd : H hp.objs.size = none := I.hok.fresh (Nat.le_refl _)
  have fr : od.isFreed = false := (Heap.get?_some_iff.mp hod).2
  have hg : (hp.push od).get? hp.objs.size = some od := Heap.get?_push_at rfl fr
  have I1 : Inv X pins σ (upd H hp.objs.size (exd hp.objs.size [(f, y)])) ⟨hp.push od, g, d, t, os⟩ :=
    I.laid (a := hp.objs.size) (t' := t) (o := exd hp.objs.size [(f, y)]) (h' := hp.push od) (fun c o z => Heap.get?_push_of_some _ z) (Nat.le_refl _)
      (exd_ok (ns1.at fun o z => by rw [hod] at z; cases z; exact hg) (relO_put (fs := []) ry fun _ => True.intro))
  have e1 : upd H hp.objs.size (exd hp.objs.size [(f, y)]) a = some (exo a C none) := by rw [upd_ne apart]; exact e
  have I2 := I1.write (x := a) (e := a) (t' := tk2) (h' := h2) (o := exo a C (some hp.objs.size)) (by rw [e1]; exact True.intro) (.inl rfl)
    (fun c o n z => by
      by_cases k : c = hp.objs.size
      · subst k
        rw [hg] at z
        cases z
        exact hod
      · have z' : hp.get? c = some o := by
          rw [Heap.get?_push_ne _ _ _ k] at z
          exact z
        exact stays c o n z') ⟨_, ha2⟩ (exo_ok ha2)
  exact h _ _ nd apart.symm I2
end
/-- self.f = e in an exception's __init__ -/
def tKeep (K : PySem.W.Frag) (f : Str) (to te : TE) : TS := fun D σ H => te σ H fun y H1 => to σ H1 fun x H2 => ∃ a C : Addr, x = .ref a ∧ Ovr K C ∧ PySem.W.findIn K (.ref C) f = some none ∧
  H2 a = some (exo a C none) ∧ ∀ dx, H2 dx = none → dx ≠ a → D.nx σ (upd (upd H2 dx (exd dx [(f, y)])) a (exo a C (some dx)))
theorem ps_keep {X : Cx} {o e : Expr} {to te : TE} {f : Str} {p' pos : Pos} (ho : PE X o to) (he : PE X e te) (hs : swapsWith e (some (.Attribute o f p')) pos.line X.env = pure false := by rfl) : PS X (.Assign [.Attribute o f p'] e pos) (tKeep X.K f to te) :=
  ⟨fun pins s σ H D I h => plainObj_wpAny_Assign_Attribute (thn (he.run pins s σ H _ I h) fun v s1 ⟨y, H1, I1, r1, q1⟩ => thn (ho.run pins s1 σ H1 _ I1 q1) fun u s2 ⟨x, H2, I2, r2, a, C, ex, T, no, ea, q⟩ => by
    subst ex
    obtain rfl : u = Value.ref a := r2
    exact keep_first T I2 ea no r1 fun dx s' n ne J => ⟨σ, _, J, q dx n ne⟩) hs⟩
/-- an exception class of the program with an own __init__, over any built-in one -/
structure ExnB (P : Program) (w : World) (K : PySem.W.Frag) (mg : Str → Option Value) (base : Heap) (k : Nat) (x : Str) (C : Addr) (sp : Sp) : Prop where
  mg_ : mg x = some (.ref C)
  cls : Ovr K C
  init : ∃ fI fd ps, FnOk P w K mg base CX0 k fI fd ps sp ∧ PySem.W.findIn K (.ref C) "__init__" = some (some (.ref fI)) ∧ PySem.W.typeIn K (.ref fI) = some (.type "function") ∧ Binds K fd ps []
theorem pmk_b {X : Cx} {k j : Nat} {C : Addr} {x : Str} {sp : Sp} {p pos : Pos} {e : Expr} {es : List Expr} {t : TA} (c : ExnB X.prog X.w X.K X.mg X.base k x C sp) (hr : Room j X.A) (hk : k + 1 ≤ j) (hg : Gl X x) (ha : PA X (e :: es) t)
    (hdb : (x == ("__debug__" : Str)) = false := by decide) (he : starEach (e :: es) X.env = (false, eval e X.env) :: starEach es X.env := by rfl) (hpl : (backTo pos (starEach es X.env)).any (·.1) = false := by rfl) :
    PMk X (.Call (.Name x p) (e :: es) [] pos) (tMkO C sp [] t) := by
  obtain ⟨fI, fd, ps, F, at_, ty, b⟩ := c.init
  obtain ⟨B, nid, iid, line, T⟩ := c.cls
  intro pins s σ H Q I h
  refine wpAny_Call_Name_kw (ld_glob I hg c.mg_ (PySem.W.callWith_K (h₀ := X.base) I.ok.mod.kin T.kC (thn (ha.run pos pins s σ H _ I h) fun us s1 ⟨vs, H1, J, rs, short, go⟩ => ⟨J.kIn, ?_⟩) he hpl) hdb)
  obtain ⟨nm, N, qn, bs, bm, hdct, sn, sub, ab, col, dd, k0, k1, k2, k3, k5, hC, same⟩ := PySem.W.excInit_of J.kIn T.ini
  obtain ⟨hp, g, dr, tk, os⟩ := s1
  let n := hp.objs.size
  let h2 := (hp.push (PySem.W.kdv_tup us)).push (HandSPX.excO C n)
  have grown : ∀ b o, hp.get? b = some o → h2.get? b = some o := fun b o z => Heap.get?_push_of_some _ (Heap.get?_push_of_some _ z)
  have here : h2.get? (n + 1) = some (HandSPX.excO C n) := by
    show ((hp.push (PySem.W.kdv_tup us)).push (HandSPX.excO C hp.objs.size)).get? (hp.objs.size + 1) = some (HandSPX.excO C hp.objs.size)
    heap_get
  have hole : H1 (n + 1) = none := J.hok.fresh (Nat.le_succ _)
  have q0 := go (n + 1) hole
  have J2 : Inv X pins σ (upd H1 (n + 1) (exo (n + 1) C none)) ⟨h2, g, dr, tk, os⟩ := J.laid (t' := tk) (a := n + 1) (h' := h2) grown (Nat.le_succ _) (exo_ok here)
  have rel : Vals (V.ref (n + 1) :: (vs ++ [])) (Value.ref (n + 1) :: (us ++ [])) := .cons rfl (rs.append .nil)
  have many : (Value.ref (n + 1) :: us ++ []).length = ps.length := rel.length.symm.trans (F.len _ _ _ _ q0)
  have fits : us.length ≤ sizeLine := by
    have z := Paired.length rs
    rw [sizeLine_eq]
    omega
  have run := F.run _ X.stack _ _ ⟨Value.ref (n + 1) :: us, []⟩ _ _ _ (fun _ _ _ => False) ((hr.mono hk).make C us []) (J2.env0.make C us []) (b _ (Value.ref (n + 1) :: us) J2.kIn many) rel q0
  show wpAny _ _ (call (.ref C) us) _ _ _
  refine wpAny_call (HandSPX.call_own T.fB same hC (PySem.W.looks_findIn J.kIn at_) (fun self => PySem.W.bind_fn J.kIn self ty) fits (codeAny_mono run fun o s2 z => ?_))
  match o, z with
  | .error err, z => exact (pass0 : Passes CX0 X _) pins σ _ _ err s2 J2 z
  | .ok (.ret u), ⟨v, H2, os2, bare2, un2, hok2, rv, ev, d, fs, ea, ed, nd, q2⟩ =>
    subst ev
    exact ⟨rv, mk_end (raises_own T.exC T.tyC) J (Nat.le_succ _) grown un2 hok2 os2 bare2 ea ed nd q2⟩

/-! ### o.m(e, ..) that may raise -/
def tMethS (C : Addr) (m : Str) (sp : Sp) (E : L2.St → XK) (ta : TE) (t : TA) : TE := fun σ H Q => ta σ H fun x H1 => ∃ a dx fs, x = .ref a ∧ H1 a = some (.ins C dx fs) ∧ fs.lookup m = none ∧ t σ H1 fun vs H2 => sp (.ref a :: vs) H2 Q (E σ)
section
variable {X : Cx} {k j : Nat} {C : Addr} {x m : Str} {sp : Sp} {W : WX} {p pos apos : Pos} {e o : Expr} {es : List Expr} {ta : TE} {t : TA}
theorem pe_mS {pl : Sem Bool} (c : Met X.prog X.w X.K X.mg X.base (L2.CX X.prog X.w) k C m sp) (cl : Cls X.K C) (tk : Takes X W) (hr : Room j X.A) (hk : k ≤ j) (he : PE X o ta) (ha : PA X (e :: es) t)
    (hst : starEach (e :: es) X.env = (false, eval e X.env) :: starEach es X.env := by rfl) (hpl : (backTo pos (starEach es X.env)).any (·.1) = false := by rfl)
    (ht : eval (.Call (.Attribute o m apos) (e :: es) [] pos) X.env = (do
      let ov ← eval o X.env
      standAt apos.atName
      let (f, first) ← holding [ov] (getMethod ov m pl)
      callWith pos f first (backTo pos (starEach (e :: es) X.env)) (backToKw pos (keywordEach [] X.env))) := by rfl) :
    PE X (.Call (.Attribute o m apos) (e :: es) [] pos) (tMethS C m sp (WE W) ta t) := by
  obtain ⟨f, fd, ps, F, at_, i, kp, b⟩ := c.ex
  refine ⟨fun pins s σ H Q I h => PySem.W.methodCall_KW (pl := pl) (thn (he.run pins s σ H _ I h) fun u s1 ⟨x, H1, I1, rx, a, dx, fs, ex, ea, l, q⟩ => ?_) ht⟩
  subst ex
  obtain rfl : u = Value.ref a := rx
  refine getmeth_ok I1 ea cl ⟨at_, i, kp⟩ l (PySem.W.callWith_K (first := [.ref a]) (h₀ := X.base) I.ok.mod.kin kp (thn (ha.run pos pins s1 σ H1 _ I1 q) fun us s2 ⟨vs, H2, I2, r, q2⟩ => ⟨I2.kIn, ?_⟩) hst hpl)
  exact run_fnS (E := WE W) (us := .ref a :: us) (vs := .ref a :: vs) F (hr.mono hk) b (passAt tk σ) I2 (.cons rfl r) q2
end
/-! ### C(k = v, ..) -/
/-- __init__ with keyword-only parameters, as the top leaves it -/
structure IniK (K : PySem.W.Frag) (C : Addr) (qual : Str) (st : Stmt) (kws : List (Str × V)) : Prop where
  ex : ∃ f fd, FunD K "__init__" qual (defArgs st) (defBody st) (defScope st) [] kws f fd ∧ PySem.W.findIn K (.ref C) "__init__" = some (some (.ref f)) ∧ PySem.W.isFn K (.ref f) = true
theorem IniK.of {K : PySem.W.Frag} {C : Addr} {qual : Str} {st : Stmt} {f : Addr} {oc : Value} {od an : Option Addr} {osl : Array (Option Value)} {kV doc pm cdv ct : Value} {kws : List (Str × V)}
    (a : PySem.W.findIn K (.ref C) "__init__" = some (some (.ref f))) (i : PySem.W.isFn K (.ref f) = true) (l : K.lookup f = some ⟨oc, od, .func (PySem.W.fnOf "__init__" qual (defArgs st) (defBody st) (defScope st) .none kV doc pm an cdv ct), osl⟩)
    (c : PySem.W.codeIn K cdv qual = true) (k : PySem.W.keepIn K (.ref f) = true) (kw : KwdV K kV kws) : IniK K C qual st kws := ⟨f, _, ⟨⟨oc, od, .none, kV, doc, pm, an, cdv, ct, osl, rfl, l, c, .inl ⟨rfl, rfl⟩, kw⟩, k⟩, a, i⟩
structure MakW (P : Program) (w : World) (K : PySem.W.Frag) (mg : Str → Option Value) (base : Heap) (CX : CXT) (k : Nat) (x : Str) (C : Addr) (ks : List Str) (gV : List V → List V → List V) (sp : Sp) : Prop where
  mg_ : mg x = some (.ref C)
  mks : PySem.W.makesIn K C = true
  kp : PySem.W.keepIn K (.ref C) = true
  ex : ∃ f fd ps g, FnOk P w K mg base CX k f fd ps sp ∧ PySem.W.findIn K (.ref C) "__init__" = some (some (.ref f)) ∧ PySem.W.isFn K (.ref f) = true ∧ KBn K fd ps 1 ks g gV
def tMakeKS (C : Addr) (m : Nat) (sp : Sp) (gV : List V → List V → List V) (E : L2.St → XK) (tk : TA) : TE := fun σ H Q => tk σ H fun zs H2 => zs.length = m ∧ ∀ x dx, H2 x = none → H2 dx = none → dx ≠ x →
  sp (gV [.ref x] zs) (upd (upd H2 dx (.own x)) x (.ins C dx [])) (fun v H3 => v = .non ∧ Q (.ref x) H3) (E σ)
section
variable {X : Cx} {k j : Nat} {C : Addr} {ks : List Str} {sp : Sp} {x : Str} {p pos : Pos} {kws : List Keyword} {ta : TA} {gV : List V → List V → List V} {W : WX}
theorem pe_mkKS (c : MakW X.prog X.w X.K X.mg X.base (L2.CX X.prog X.w) k x C ks gV sp) (tk : Takes X W) (hr : Room j X.A) (hk : k + 1 ≤ j) (hg : Gl X x) (hkw : PK X kws ta)
    (hall : (backToKw pos (keywordEach kws X.env)).all (·.1.isSome) = true := by rfl) (hks : (backToKw pos (keywordEach kws X.env)).filterMap (·.1) = ks := by rfl) (hdb : (x == ("__debug__" : Str)) = false := by decide)
    (hpl : ((backTo pos (starEach [] X.env)).any (·.1) || (backToKw pos (keywordEach kws X.env)).any (·.1.isNone)) = false := by rfl) :
    PE X (.Call (.Name x p) [] kws pos) (tMakeKS C ks.length sp gV (WE W) ta) := by
  obtain ⟨f, fd, ps, g, F, ini, fn, b⟩ := c.ex
  refine ⟨fun pins s σ H Q I h => wpAny_Call_Name_kw (ld_glob I hg c.mg_ (PySem.W.callWith_KW0 (h₀ := X.base) I.ok.mod.kin c.kp hall ?_ hpl) hdb)⟩
  refine thn (hkw.run pos pins s σ H _ I h) fun ws s2 ⟨zs, H2, J, rz, ln, q⟩ => ⟨J.kIn, ?_⟩
  rw [hks]
  let n := s2.heap.objs.size
  have q1 := q (n + 1) n (J.hok.fresh (Nat.le_succ _)) (J.hok.fresh (Nat.le_refl _)) (Nat.ne_of_lt (Nat.lt_succ_self _))
  have J2 := Inv.made (C := C) J
  have r1 : Vals [V.ref (n + 1)] [Value.ref (n + 1)] := .cons rfl .nil
  have run := F.run _ X.stack _ _ ⟨[Value.ref (n + 1)], ks.zip ws⟩ _ _ _ (WE W σ) ((hr.mono hk).make C [] (ks.zip ws)) (J2.env0.make C [] (ks.zip ws)) (b.to _ [Value.ref (n + 1)] ws J2.kIn rfl (rz.length.symm.trans ln)) (b.rel r1 rz) q1
  show wpAny (model X.prog X.w) X.A (call (.ref C) [] (ks.zip ws)) (EP X pins σ Q) X.xe s2
  refine wpAny_call (make_map (f := f) J.kIn c.mks ini (beq_iff_eq.mp fn) (codeAny_mono run fun o s3 z => ?_))
  match o, z with
  | .error err, z => exact passAt tk σ pins _ _ err s3 J2 z
  | .ok (.ret u), z =>
    obtain ⟨v, H3, J3, rv, ev, q3⟩ := J2.after z
    subst ev
    exact ⟨rv, V.ref (n + 1), H3, J3, rfl, q3⟩
end
section
variable {P : Program} {w : World} {K : PySem.W.Frag} {mg : Str → Option Value} {base : Heap} {k : Nat} {C : Addr} {x qual : Str} {st : Stmt} {N ps ks : List Str} {kws : List (Str × V)} {sp : Sp}
theorem IniK.mak (D : IniK K C qual st kws) (m : mg x = some (.ref C)) (mk : PySem.W.makesIn K C = true) (kp : PySem.W.keepIn K (.ref C) = true) (S : FnScope N ps (defScope st)) (len : ∀ vs H Q E, sp vs H Q E → vs.length = ps.length)
    (ms : List (Str × V)) (g : {α : Type} → List α → List α → List α → List α) (hk : kws ≠ []) (hms : ∀ q ∈ ms, q ∈ kws) (hrel : ∀ {vs mz zs : List V} {us mv ws : List Value}, Vals vs us → Vals mz mv → Vals zs ws → Vals (g vs mz zs) (g us mv ws))
    (hb : ∀ (D : Addr) (doc pm : Value) (an : Option Addr) (cdv ct : Value) (us mv ws : List Value), us.length = 1 → mv.length = ms.length → ws.length = ks.length →
      KwChain D ((ms.map (·.1)).zip mv) (bindArgs (PySem.W.fnOf "__init__" qual (defArgs st) (defBody st) (defScope st) .none (.ref D) doc pm an cdv ct) ⟨us, ks.zip ws⟩) (ps.zip (g us mv ws)))
    (body : ∀ f, BodyX P w K mg base N qual st f k sp) : MakW P w K mg base (L2.CX P w) (k + 1) x C ks (fun vs zs => g vs (ms.map (·.2)) zs) sp :=
  let ⟨f, fd, F, a, i⟩ := D.ex
  let ⟨mv, b⟩ := F.kbinds0 1 ks ms g hk hms hrel hb
  ⟨m, mk, kp, f, fd, ps, _, F.ok S len (body f), a, i, b⟩
end
end Jg

/-! x != y by an own ==; == of data, {} among it -/
namespace Jg
open PySem PySem.Spec PyProof.Rows L2 PySem.W
section
variable {prog : Program} {w : World} {A : Around} {E : Value → Shared → Prop} {s : Shared} {K : Frag} {x C f : Addr} {ox : Obj} {od : Option Obj} {b tb : Value}
theorem ne_entry {Q : Fin → Shared → Prop} (hu : A.units < cLine) (X : K.In s.heap) (I : InstAt s.heap x ox C od) (eq : findIn K (.ref C) "__eq__" = some (some (.ref f))) (fn : isFn K (.ref f) = true)
    (h : wpAny (model prog w) A (call (.ref f) [.ref x, b]) (fun v s' => ∃ c, v = .bool c ∧ Q (.done (.ret (.bool (!c)))) s') E s) : wpAny (model prog w) A (Builtin.«object.__ne__» ⟨[.ref x, b], []⟩) Q E s := by
  unfold Builtin.«object.__ne__»
  refine wpAny_bind (wpAny_of_eq (a := ((Value.ref x : Value), [b])) (by first | rfl | (simp only [slotArgs]; rfl)) ?_)
  refine wpAny_bind (wpAny_cRoomFor hu ?_)
  refine wpAny_bind (ifBound_K (args := [b]) X I eq fn (wpAny_mono h (fun v s' z => ?_) fun _ _ z => z))
  obtain ⟨c, rfl, q⟩ := z
  refine wpAny_bind (wpAny_truthy_bool ?_)
  exact wpAny_pure q
theorem ne_K {Q : Value → Shared → Prop} (hu : A.units + 1 < cLine) (X : K.In s.heap) (I : InstAt s.heap x ox C od) (hb : Looks (model prog w) s.heap (typeOf b) tb) (hn : notFirst K C tb = true)
    (ne : findIn K (.ref C) "__ne__" = some (some (.builtin "object.__ne__"))) (mro : mroIn K C (.type "object") = some true) (eq : findIn K (.ref C) "__eq__" = some (some (.ref f))) (fn : isFn K (.ref f) = true)
    (h : wpAny (model prog w) A.in1 (call (.ref f) [.ref x, b]) (fun v s' => ∃ c, v = .bool c ∧ Q (.bool (!c)) s') E s) : wpAny (model prog w) A (richCompare .NotEq (.ref x) b) Q E s := by
  have isO : Looks (model prog w) s.heap (isInstance (.ref x) (.type "object")) true := I.type.andThen (looks_mroIn X mro)
  have one : wpAny (model prog w) A (tryCompare (.ref x) (cmpInfo .NotEq).2.1 b) (fun r s' => ∃ v, r = some v ∧ Q v s') E s := by
    unfold tryCompare
    refine wpAny_bind ?_
    show wpAny _ _ (callSpecialIfBound? (.ref x) "__ne__" [b]) _ _ _
    simp only [callSpecialIfBound?, bindSpecialIfBound?]
    refine wpAny_holding (wpAny_bind (wpAny_bind (wpAny_bind (I.type.here ((looks_findIn X ne).here ?_)))))
    refine wpAny_bind (wpAny_askSetting (wpAny_ite ?_))
    have fin : ∀ R : Option Value → Shared → Prop, (∀ c s', Q (.bool (!c)) s' → R (some (.bool (!c))) s') → wpAny (model prog w) A (call (.builtin "object.__ne__") ([.ref x] ++ [b]) >>= fun v => pure (some v)) R E s := by
      intro R hR
      refine wpAny_bind (wpAny_call (codeAny_call_builtin F.cmp_object.ne.plain F.cmpEntry_ne (check_slot F.cmpKind_ne F.cmpSplit_ne isO (F.cmpArgs_ne _ _) ?_)))
      refine ne_entry (A := A.in1) hu X I eq fn (wpAny_mono h (fun v s' z => ?_) fun _ _ z => z)
      obtain ⟨c, rfl, q⟩ := z
      exact ⟨c, rfl, wpAny_pure (hR c s' q)⟩
    rw [F.cmp_object.ne.bind (.ref x)]
    split
    · refine wpAny_bind (wpAny_pure (wpAny_pure ?_))
      exact fin _ fun c s' q => wpAny_pure ⟨_, rfl, q⟩
    · refine wpAny_tryCatch (wpAny_bind (wpAny_pure (wpAny_pure ?_)))
      exact fin _ fun c s' q => wpAny_pure ⟨_, rfl, q⟩
  unfold richCompare
  simp only [oneThing_ref]
  refine wpAny_holding (wpAny_bind (wpAny_cRoomFor (Nat.lt_of_succ_lt hu) ?_))
  refine wpAny_bind (I.type.here (wpAny_bind (hb.here ?_)))
  have fin : ∀ s', (∃ v, (∃ r, r = some v ∧ Q v s')) → True := fun _ _ => trivial
  split
  · rename_i q
    have e : subIn K tb (.ref C) = some false := by
      rcases Bool.or_eq_true_iff.mp hn with e | e
      · rw [beq_iff_eq.mp e] at q; simp at q
      · exact beq_iff_eq.mp e
    refine wpAny_bind ((looks_subIn X e).here ?_)
    simp only [Bool.false_eq_true, if_false]
    refine wpAny_bind (wpAny_mono one (fun r s' ⟨v, e, hq⟩ => ?_) fun _ _ e => e)
    subst e
    exact wpAny_pure hq
  · refine wpAny_bind (wpAny_pure ?_)
    simp only [Bool.false_eq_true, if_false]
    refine wpAny_bind (wpAny_mono one (fun r s' ⟨v, e, hq⟩ => ?_) fun _ _ e => e)
    subst e
    exact wpAny_pure hq
end
/-- x != y by the own == of x -/
def rOwnNe (K : PySem.W.Frag) (C : Addr) (sp : Sp) (E : XK) : R2 := fun x y H Q => ∃ a dx fs t, x = .ref a ∧ H a = some (.ins C dx fs) ∧ TyX K H y t ∧ PySem.W.notFirst K C t = true ∧ sp [.ref a, y] H (fun v H' => ∃ c, v = .bl c ∧ Q (.bl (!c)) H') E
theorem op_ne_c {X : Cx} {k j : Nat} {C : Addr} {sp : Sp} (c : Met X.prog X.w X.K X.mg X.base CX0 k C "__eq__" sp) (ne : PySem.W.findIn X.K (.ref C) "__ne__" = some (some (.builtin "object.__ne__"))) (mro : PySem.W.mroIn X.K C (.type "object") = some true) (hr : Room j X.A) (hk : k + 1 ≤ j) :
    OpR X (compareOp .NotEq) (rOwnNe X.K C sp E0) := by
  intro pins s σ H x y v u Q I rx ry h
  obtain ⟨f, fd, ps, F, a0, i0, kp, bd⟩ := c.ex
  obtain ⟨a, dx, fs, t, rfl, ha, ty, nf, q⟩ := h
  cases rx
  obtain ⟨mA, J, _⟩ := ins_get I.hok ha
  obtain ⟨od, J, _⟩ := J.look
  obtain ⟨P, Z, p, _⟩ := kit_of I ry ty
  have rm : Room (k + 1) X.A := hr.mono hk
  show wpAny _ _ (richCompare .NotEq (.ref a) u) _ _ _
  have ln : [Value.ref a, u].length = ps.length := (Paired.length (show Vals [V.ref a, y] [Value.ref a, u] from .cons rfl (.cons ry .nil))).symm.trans (F.len _ _ _ _ q)
  have bb := bd s [Value.ref a, u] I.kIn (by rw [List.append_nil]; exact ln)
  rw [List.append_nil] at bb
  have rr : Vals [V.ref a, y] [Value.ref a, u] := .cons rfl (.cons ry .nil)
  have run := F.run X.A.in1 X.stack s H ⟨[Value.ref a, u], []⟩ _ _ _ E0 rm.in1 I.env0.in1 bb rr q
  refine ne_K (tb := t) (Nat.lt_of_le_of_lt (by omega) hr.units) I.kIn J (Z.ty _ _ I.kIn p) nf ne mro a0 i0 (wpAny_call (codeAny_mono run fun o s2 z => ?_))
  match o, z with
  | .error err, z => exact z.elim
  | .ok (.ret u2), z =>
    obtain ⟨v3, H2, J3, rv3, cc, rfl, q3⟩ := I.after z
    cases rv3
    exact ⟨_, rfl, .bl _, H2, J3, rfl, q3⟩
/-- data, {} among it -/
def DpX (K : PySem.W.Frag) (H : Hp) (v : V) (d : PyData) : Prop := Dp K H v d ∨ ∃ a, v = .ref a ∧ H a = some (.dK []) ∧ d = .dict []
theorem DpX.reads {X : Cx} {pins : List (Addr × Obj)} {σ : L2.St} {H : Hp} {s : Shared} (I : Inv X pins σ H s) {d : PyData} {v : V} {u : Value} (h : DpX X.K H v d) (r : RelV v u) : ∃ as, Reads s.heap u d as := by
  rcases h with h | ⟨a, rfl, e, rfl⟩
  · exact Dp.reads I d v u h r
  · cases r
    obtain ⟨as, z, _⟩ := dk_nil I.hok e
    exact ⟨as, z⟩
def rEqX (K : PySem.W.Frag) : R2 := fun x y H Q => ∃ d e, DpX K H x d ∧ DpX K H y e ∧ SeqAt.shaped d = true ∧ SeqAt.shaped e = true ∧ Q (.bl (PyData.eqv d e)) H
theorem op_eqX {X : Cx} (hu : X.A.units + 64 < cLine) : OpR X (compareOp .Eq) (rEqX X.K) := by
  intro pins s σ H x y v u Q I rx ry h
  obtain ⟨d, e, hd, he, sd, se, q⟩ := h
  obtain ⟨as, r1⟩ := hd.reads I rx
  obtain ⟨bs, r2⟩ := he.reads I ry
  exact SeqAt.compareEq_shaped r1 r2 sd se hu ⟨.bl _, H, I, rfl, q⟩
/-! ### {} == 'text' -/
section
variable {prog : Program} {w : World} {A : Around} {E : Value → Shared → Prop} {s : Shared}
theorem str_no_dict {z : Str} {u : Tok} {d : Addr} {o : Obj} {es : Array DictEntry} {n : Nat} (Q : Value → Shared → Prop) (at_ : s.heap.get? d = some o) (c : o.cls = .type "dict") (hd : o.data = .dict es n) (q : Q .notImplemented s) :
    wpAny (model prog w) A (call (.builtin "str.__eq__") [.str z u, .ref d]) Q E s := by
  refine wpAny_call (codeAny_call_builtin F.slot_str_eq.plain F.entry_str_eq (F.slot_str_eq.check _ _ _ _ _ _ _ _ (typeIs_str s z u) (F.args_str_eq_2 _ _) ?_))
  obtain ⟨oc, od, dt, sl⟩ := o
  subst c hd
  obtain ⟨h0, g0, d0, t0, os0⟩ := s
  wp_walk using wpAny_loadPart' at_, wpAny_load at_
  first
    | exact q
    | exact ⟨_, rfl, q⟩
theorem dict_no_str {z : Str} {u : Tok} {d : Addr} {o : Obj} (Q : Value → Shared → Prop) (at_ : s.heap.get? d = some o) (c : o.cls = .type "dict") (q : Q .notImplemented s) :
    wpAny (model prog w) A (call (.builtin "dict.__eq__") [.ref d, .str z u]) Q E s := by
  have ty : s.TypeIs (.ref d) "dict" := ⟨_, at_, c⟩
  refine wpAny_call (codeAny_call_builtin F.slot_dict_eq.plain F.entry_dict_eq (F.slot_dict_eq.check _ _ _ _ _ _ _ _ ty (F.args_dict_eq_2 _ _) ?_))
  refine wpAny_bind ?_
  unfold Builtin.Dict.dictSlotArgs
  refine wpAny_bind (wpAny_notOrdered_dict ty ?_)
  refine wpAny_pure ?_
  refine wpAny_bind (wpAny_isInstance (T := "str") (typeIs_str s z u) F.sub_str_dict ?_)
  simp only [Bool.not_false, if_true]
  refine wpAny_bind (wpAny_rule ?_)
  first
    | exact wpAny_bind (wpAny_pure (wpAny_pure q))
    | exact wpAny_bind (wpAny_bind (wpAny_pure (wpAny_pure q)))
    | exact wpAny_pure q
theorem eq_dict_str {z : Str} {u : Tok} {d : Addr} {o : Obj} {es : Array DictEntry} {n : Nat} {Q : Value → Shared → Prop} (at_ : s.heap.get? d = some o) (c : o.cls = .type "dict") (hd : o.data = .dict es n) (hu : A.units < cLine) (q : Q (.bool false) s) :
    wpAny (model prog w) A (compareOp .Eq (.ref d) (.str z u)) Q E s :=
  SeqAt.rc_eq_decline_or (k := false) ⟨_, at_, c⟩ (typeIs_str s z u) (by decide) F.sub_str_dict F.slot_dict_eq F.slot_str_eq_refl
    (fun Q' h => dict_no_str Q' at_ c h) (fun Q' h => str_no_dict Q' at_ c hd h) (fun Q' h => wpAny_of_eq (rfl : isSame (.ref d) (.str z u) = pure false) h) (.inr hu) q
end
def rEqY (K : PySem.W.Frag) : R2 := fun x y H Q => rEqD K x y H Q ∨ ∃ a z, x = .ref a ∧ y = .str z ∧ H a = some (.dK []) ∧ Q (.bl false) H
theorem op_eqY {X : Cx} (hu : X.A.units + 64 < cLine) : OpR X (compareOp .Eq) (rEqY X.K) := by
  intro pins s σ H x y v u Q I rx ry h
  rcases h with h | ⟨a, z, rfl, rfl, e, q⟩
  · exact op_eqD hu pins s σ H x y v u Q I rx ry h
  · cases rx
    obtain ⟨t, rfl⟩ := ry
    obtain ⟨_, na, vs, kv, o, es, n, at_, ex, dt, _⟩ := I.hok a _ e
    exact eq_dict_str at_ ex.1 dt (by omega) ⟨.bl _, H, I, rfl, q⟩
end Jg

namespace K11
open PySem PySem.Spec PyProof.Rows L2 Jg
local macro_rules | `(tactic| walk_at "rd1") => `(tactic| (first
  | refine ⟨_, rfl, ?_⟩
  | refine ⟨_, _, rfl, rfl, ?_⟩
  | refine ⟨_, _, rfl, ?_⟩
  | refine ⟨rfl, ?_⟩
  | (refine ⟨show (0 : Int) < _ by omega, ?_⟩)
  | (refine ⟨Or.inl ⟨by omega, by omega⟩, ?_⟩)
  | (refine ⟨Or.inr ⟨by omega, by omega⟩, ?_⟩)
  | (refine ⟨(⟨by decide, by decide, by decide⟩ : CPow _ _), ?_⟩)
  | refine Or.inl ⟨_, rfl, ?_⟩
  | refine Or.inr ⟨_, rfl, ?_⟩
  | fail "rd"))
local macro_rules | `(tactic| walk_at "rd") => `(tactic| repeat' walk_at "rd1")


def top (i : Nat) : Stmt := PySem.Challenge.pw_gaplesskeys_k11_kinds_made.main.body.getD i (.Pass ⟨0, 0, 0, 0⟩)
theorem q_true {Q : VK} {b : Bool} {H : Hp} (e : b = true) (h : Q (.bl true) H) : Q (.bl b) H := e ▸ h
def L : Int := 10 ^ 30
theorem L_eq : L = 1000000000000000000000000000000 := by decide +kernel
/-! ### the data of a kind -/
structure Kd where
  g : Int
  a : Option Int
  s : Option Str
def oV : Option Int → V
  | none => .non
  | some i => .int i
def sV : Option Str → V
  | none => .non
  | some z => .str z
def kf (u v s : V) : List (Str × V) := [("_gap", u), ("_age", v), ("_source", s)]
def kflds (r : Kd) : List (Str × V) := kf (.int r.g) (oV r.a) (sV r.s)
theorem kga : ¬ (("_gap" : Str) = "_age") := by decide +kernel
theorem kgs : ¬ (("_gap" : Str) = "_source") := by decide +kernel
theorem kas : ¬ (("_age" : Str) = "_source") := by decide +kernel
theorem put_a (u v : V) : putF "_age" v [(("_gap" : Str), u)] = [(("_gap" : Str), u), ("_age", v)] := by
  show (if ("_gap" : Str) = "_age" then _ else _) = _
  rw [if_neg kga]; rfl
theorem put_s (u v s : V) : putF "_source" s [(("_gap" : Str), u), ("_age", v)] = kf u v s := by
  show (if ("_gap" : Str) = "_source" then _ else _ :: (if ("_age" : Str) = "_source" then _ else _)) = _
  rw [if_neg kgs, if_neg kas]; rfl
theorem put_g2 (u v s z : V) : putF "_gap" z (kf u v s) = kf z v s := by
  show (if ("_gap" : Str) = "_gap" then _ else _) = _
  rw [if_pos rfl]; rfl
theorem put_a2 (u v s z : V) : putF "_age" z (kf u v s) = kf u z s := by
  show (if ("_gap" : Str) = "_age" then _ else _ :: (if ("_age" : Str) = "_age" then _ else _)) = _
  rw [if_neg kga, if_pos rfl]; rfl
theorem get_g (u v s : V) : (kf u v s).lookup ("_gap" : Str) = some u := by
  have e : ((("_gap" : Str)) == ("_gap" : Str)) = true := by decide +kernel
  simp only [kf, List.lookup, e]
theorem get_a (u v s : V) : (kf u v s).lookup ("_age" : Str) = some v := by
  have e1 : ((("_age" : Str)) == ("_gap" : Str)) = false := by decide +kernel
  have e2 : ((("_age" : Str)) == ("_age" : Str)) = true := by decide +kernel
  simp only [kf, List.lookup, e1, e2]
theorem get_s (u v s : V) : (kf u v s).lookup ("_source" : Str) = some s := by
  have e1 : ((("_source" : Str)) == ("_gap" : Str)) = false := by decide +kernel
  have e2 : ((("_source" : Str)) == ("_age" : Str)) = false := by decide +kernel
  have e3 : ((("_source" : Str)) == ("_source" : Str)) = true := by decide +kernel
  simp only [kf, List.lookup, e1, e2, e3]
theorem get_no (u v s : V) {m : Str} (h1 : (m == ("_gap" : Str)) = false) (h2 : (m == ("_age" : Str)) = false) (h3 : (m == ("_source" : Str)) = false) : (kf u v s).lookup m = none := by
  simp only [kf, List.lookup, h1, h2, h3]
/-- a kind stands at p -/
def KAt (C : Addr) (H : Hp) (p : Addr) (r : Kd) : Prop := ∃ dx, H p = some (.ins C dx (kflds r))
/-- what the walk asks of the text -/
structure Txt (K : PySem.W.Frag) (mg : Str → Option Value) (C : Addr) : Prop where
  cl : Cls K C
  ng : NoAttr K C "_gap"
  na : NoAttr K C "_age"
  ns : NoAttr K C "_source"
  cKind : mg "Kind" = some (.ref C)
  gLONGEST : ∃ u, mg "LONGEST" = some u ∧ L2.RelV (.int L) u
  b_isinstance : mg "isinstance" = none
  b_int : mg "int" = none
  b_bool : mg "bool" = none
  b_str : mg "str" = none
  b_tuple : mg "tuple" = none
  b_len : mg "len" = none
  b_max : mg "max" = none
  b_min : mg "min" = none
  b_range : mg "range" = none
  b_repr : mg "repr" = none
  cls_ : PySem.W.findIn K (.ref C) "__class__" = some (some (.builtin "object.__class__"))
  cgt : PySem.W.specialIn K (.builtin "object.__class__") "__get__" = some (some (.builtin "getset_descriptor.__get__"))
  ctk : PySem.W.takesIn K (.builtin "object.__class__") = some true
  mro : PySem.W.mroIn K C (.type "object") = some true
  ne : PySem.W.findIn K (.ref C) "__ne__" = some (some (.builtin "object.__ne__"))
  kCC : PySem.W.kitOne K (.ref C) (.ref C) = some true
  kN : PySem.W.kitOne K (.type "NoneType") (.ref C) = some false
  kI : PySem.W.kitOne K (.type "int") (.ref C) = some false
  kS : PySem.W.kitOne K (.type "str") (.ref C) = some false
  kL : PySem.W.kitOne K (.type "list") (.ref C) = some false
  kT : PySem.W.kitOne K (.type "tuple") (.ref C) = some false
  kD : PySem.W.kitOne K (.type "dict") (.ref C) = some false
  oCC : PySem.W.notFirst K C (.ref C) = true
  oN : PySem.W.notFirst K C (.type "NoneType") = true
  oI : PySem.W.notFirst K C (.type "int") = true
  oS : PySem.W.notFirst K C (.type "str") = true
  oL : PySem.W.notFirst K C (.type "list") = true
  oT : PySem.W.notFirst K C (.type "tuple") = true
  oD : PySem.W.notFirst K C (.type "dict") = true
section
variable {K : PySem.W.Frag} {mg : Str → Option Value} {C : Addr}
theorem Txt.ty (T : Txt K mg C) {H : Hp} {p : Addr} {r : Kd} (h : KAt C H p r) : TyX K H (.ref p) (.ref C) :=
  let ⟨_, e⟩ := h
  .base (.ins e T.cl T.cls_ T.cgt T.ctk T.mro)
end
theorem same_new {H : Hp} {p : Addr} {o : HO} (h : H p = none) : Same H (upd H p o) := fun b u e => by rw [upd_ne (ne_of_none e h)]; exact e
theorem same_new' {H H1 : Hp} {p : Addr} {o : HO} (s : Same H H1) (h : H1 p = none) : Same H (upd H1 p o) := s.trans (same_new h)
theorem same_mut {H H1 : Hp} {p : Addr} {o : HO} (s : Same H H1) (h : H p = none) : Same H (upd H1 p o) := fun b u e => by rw [upd_ne (ne_of_none e h)]; exact s b u e
theorem same_tup {K : PySem.W.Frag} {H H' : Hp} {a : Addr} {xs : List V} (e : Same H H') (h : SqT K H a xs) : SqT K H' a xs := by
  rcases h with (h | ⟨o, h⟩) | h
  · exact .inl (.inl (e _ _ h))
  · exact .inl (.inr ⟨o, e _ _ h⟩)
  · exact .inr h
/-! ### promises -/
abbrev kit (K : PySem.W.Frag) (t : Value) (n : String) (b : Bool) : Prop := PySem.W.kitOne K t (.type n) = some b
theorem kii {K : PySem.W.Frag} : kit K (.type "int") "int" true := kit_ty (by decide +kernel)
theorem kib {K : PySem.W.Frag} : kit K (.type "int") "bool" false := kit_ty (by decide +kernel)
/-- no integer, whatever comes -/
def NoInt (K : PySem.W.Frag) (H : Hp) (y : V) : Prop := ∃ t b1 b2, (∀ H', Same H H' → TyX K H' y t) ∧ kit K t "int" b1 ∧ (b1 = true → kit K t "bool" b2) ∧ (b1 && !b2) = false
def BadR (K : PySem.W.Frag) (H : Hp) (lo hi : Int) (y : V) : Prop := (∃ i, y = .int i ∧ (decide (lo ≤ i) && decide (i ≤ hi)) = false) ∨ NoInt K H y
def wordB (z : Str) : Bool := decide (z.length ≤ 8) && (PySem.Txt.isascii z && (PySem.Txt.isalpha z && PySem.Txt.islower z))
def BadW (K : PySem.W.Frag) (H : Hp) (y : V) : Prop := (∃ z, y = .str z ∧ z.length ≤ sizeLine ∧ wordB z = false) ∨ ∃ t, (∀ H', Same H H' → TyX K H' y t) ∧ kit K t "str" false
theorem NoInt.keep {K : PySem.W.Frag} {H H' : Hp} {y : V} (h : NoInt K H y) (s : Same H H') : NoInt K H' y :=
  let ⟨t, b1, b2, ty, r⟩ := h
  ⟨t, b1, b2, fun H2 s2 => ty H2 (s.trans s2), r⟩
theorem BadR.keep {K : PySem.W.Frag} {H H' : Hp} {lo hi : Int} {y : V} (h : BadR K H lo hi y) (s : Same H H') : BadR K H' lo hi y := h.elim .inl fun z => .inr (z.keep s)
theorem BadW.keep {K : PySem.W.Frag} {H H' : Hp} {y : V} (h : BadW K H y) (s : Same H H') : BadW K H' y := h.elim .inl fun ⟨t, ty, r⟩ => .inr ⟨t, fun H2 s2 => ty H2 (s.trans s2), r⟩
def aOk (a : Option Int) : Prop := ∀ i, a = some i → 0 ≤ i ∧ i ≤ L
def sOk (s : Option Str) : Prop := ∀ z, s = some z → z.length ≤ sizeLine ∧ wordB z = true
def gG (y : V) : Prop := ∃ g : Int, y = .int g ∧ 1 ≤ g ∧ g ≤ L
def gA (y : V) : Prop := ∃ a, y = oV a ∧ aOk a
def gS (y : V) : Prop := ∃ s, y = sV s ∧ sOk s
def bG (K : PySem.W.Frag) (H : Hp) (y : V) : Prop := BadR K H 1 L y
def bA (K : PySem.W.Frag) (H : Hp) (y : V) : Prop := y ≠ .non ∧ BadR K H 0 L y
def bS (K : PySem.W.Frag) (H : Hp) (y : V) : Prop := y ≠ .non ∧ BadW K H y
structure KOk (r : Kd) : Prop where
  g : 1 ≤ r.g ∧ r.g ≤ L
  a : aOk r.a
  s : sOk r.s
def spIsInt (K : PySem.W.Frag) : Sp := fun vs H Q _ => ∃ x t b1 b2, vs = [x] ∧ TyX K H x t ∧ kit K t "int" b1 ∧ (b1 = true → kit K t "bool" b2) ∧ Q (.bl (b1 && !b2)) H
def spBtwn (K : PySem.W.Frag) : Sp := fun vs H Q _ => ∃ y lo hi, vs = [y, .int lo, .int hi] ∧ ((∃ i, y = .int i ∧ Q (.bl (decide (lo ≤ i) && decide (i ≤ hi))) H) ∨ (NoInt K H y ∧ Q (.bl false) H))
def spWord (K : PySem.W.Frag) : Sp := fun vs H Q _ => ∃ y, vs = [y] ∧ ((∃ z, y = .str z ∧ z.length ≤ sizeLine ∧ Q (.bl (wordB z)) H) ∨ (∃ t, TyX K H y t ∧ kit K t "str" false ∧ Q (.bl false) H))
def spChk (good : V → Prop) (bad : Hp → V → Prop) (CI : Addr) : Sp := fun vs H Q E => ∃ y, vs = [y] ∧ ((good y ∧ Q y H) ∨ (bad H y ∧ ∀ d, H d = none → E (.ref CI) (some d) (upd H d (.xd [(("value" : Str), y)]))))
section
variable {P : Program} {w : World} {K : PySem.W.Frag} {mg : Str → Option Value} {base : Heap} {C : Addr}
abbrev s_is_integer : Stmt := top 7
theorem sc_is_integer : FnScope ["value"] ["value"] (defScope s_is_integer) := ⟨rfl, rfl, rfl, by decide +kernel, rfl, by decide +kernel, by decide +kernel⟩
theorem ok_is_integer (D : DefK K mg "is_integer" s_is_integer) (T : Txt K mg C) : Cal P w K mg base CX0 1 "is_integer" (spIsInt K) := by
  refine D.cal sc_is_integer (fun _ _ _ _ _ _ us hl => match us, hl with | [_], _ => rfl) (fun vs H Q E h => ?_) fun f cdv A outer s H vs Q E hr h => ?_
  · obtain ⟨x, t, b1, b2, rfl, _⟩ := h; rfl
  · obtain ⟨x, t, b1, b2, rfl, ty, k1, k2, q⟩ := h
    refine ⟨_, (pss_one (ps_ret (pe_and (pe_callB call_isi (by rfl) T.b_isinstance (by decide +kernel) (pa_cons (pv 0) (pa_cons (pe_ty (n := "int") (by rfl) T.b_int (by decide +kernel)) pa_nil))) (pe_one (pe_not (pe_callB call_isi (by rfl) T.b_isinstance (by decide +kernel) (pa_cons (pv 0) (pa_cons (pe_ty (n := "bool") (by rfl) T.b_bool (by decide +kernel)) pa_nil)))))))), ?_⟩
    refine ⟨_, rfl, x, .ty "int", t, _, b1, rfl, .ty "int", ty, k1, b1, rfl, ?_⟩
    cases b1 with
    | false => exact iteF q
    | true => exact iteT ⟨_, rfl, x, .ty "bool", t, _, b2, rfl, .ty "bool", ty, k2 rfl, b2, rfl, q⟩
abbrev s_is_between : Stmt := top 8
theorem sc_is_between : FnScope ["value", "least", "most"] ["value", "least", "most"] (defScope s_is_between) := ⟨rfl, rfl, rfl, by decide +kernel, rfl, by decide +kernel, by decide +kernel⟩
theorem ok_is_between (D : DefK K mg "is_between" s_is_between) (T : Txt K mg C) (G_is_integer : Cal P w K mg base CX0 1 "is_integer" (spIsInt K)) : Cal P w K mg base CX0 2 "is_between" (spBtwn K) := by
  refine D.cal sc_is_between (fun _ _ _ _ _ _ us hl => match us, hl with | [_, _, _], _ => rfl) (fun vs H Q E h => ?_) fun f cdv A outer s H vs Q E hr h => ?_
  · obtain ⟨y, lo, hi, rfl, _⟩ := h; rfl
  · obtain ⟨y, lo, hi, rfl, h⟩ := h
    refine ⟨_, (pss_one (ps_ret (pe_and (pe_c G_is_integer hr (by decide) rfl (pa_cons (pv 0) pa_nil)) (pe_one (pe_chain op_le op_le (pv 1) (pv 0) (pv 2)))))), ?_⟩
    rcases h with ⟨i, rfl, q⟩ | ⟨⟨t, b1, b2, ty, k1, k2, e⟩, q⟩
    · refine ⟨_, rfl, .int i, _, true, false, rfl, .base (.int i), kii, fun _ => kib, true, rfl, iteT ?_⟩
      refine ⟨_, rfl, _, rfl, lo, i, rfl, rfl, _, rfl, ?_⟩
      by_cases c : lo ≤ i
      · rw [decide_eq_true c]
        refine iteT ⟨_, rfl, i, hi, rfl, rfl, ?_⟩
        rw [decide_eq_true c] at q
        exact q
      · rw [decide_eq_false c]
        rw [decide_eq_false c] at q
        exact iteF q
    · refine ⟨_, rfl, y, t, b1, b2, rfl, ty H (.refl H), k1, k2, _, rfl, ?_⟩
      rw [e]
      exact iteF q
abbrev s_is_word : Stmt := top 9
theorem sc_is_word : FnScope ["value"] ["value"] (defScope s_is_word) := ⟨rfl, rfl, rfl, by decide +kernel, rfl, by decide +kernel, by decide +kernel⟩
theorem ok_is_word (D : DefK K mg "is_word" s_is_word) (T : Txt K mg C) : Cal P w K mg base CX0 1 "is_word" (spWord K) := by
  refine D.cal sc_is_word (fun _ _ _ _ _ _ us hl => match us, hl with | [_], _ => rfl) (fun vs H Q E h => ?_) fun f cdv A outer s H vs Q E hr h => ?_
  · obtain ⟨y, rfl, _⟩ := h; rfl
  · obtain ⟨y, rfl, h⟩ := h
    refine ⟨_, (pss_cons (ps_if (PW.pt (pw_or (pt_not (pt_val (pe_callB call_isi (by rfl) T.b_isinstance (by decide +kernel) (pa_cons (pv 0) (pa_cons (pe_ty (n := "str") (by rfl) T.b_str (by decide +kernel)) pa_nil))))) (pw_or1 (pt_cmpR op_gt (pe_callB call_len_str (by rfl) T.b_len (by decide +kernel) (pa_cons (pv 0) pa_nil)) pe_int (nomark _))))) (pss_one (ps_ret pe_bl)) pss_nil)
      (pss_one (ps_ret (pe_and (pe_m0 F.slot_str_isascii F.type_str_isascii mt_isascii (pv 0)) (pe_and (pe_m0 F.slot_str_isalpha F.type_str_isalpha mt_isalpha (pv 0)) (pe_one (pe_m0 F.slot_str_islower F.type_str_islower mt_islower (pv 0)))))))), ?_⟩
    rcases h with ⟨z, rfl, hz, q⟩ | ⟨t, ty, k, q⟩
    · refine ⟨_, rfl, .str z, .ty "str", _, _, true, rfl, .ty "str", .base (.str z), kit_ty (by decide +kernel), _, rfl, iteF ?_⟩
      refine ⟨_, rfl, z, rfl, hz, _, _, rfl, rfl, _, rfl, ?_⟩
      unfold wordB at q
      by_cases c : z.length ≤ 8
      · refine iteFe (decide_eq_false (by omega)) ?_
        rw [decide_eq_true c] at q
        refine ⟨_, rfl, ⟨_, rfl⟩, z, rfl, rfl, trivial, _, rfl, ?_⟩
        cases h1 : PySem.Txt.isascii z with
        | false => rw [h1] at q; exact iteF q
        | true =>
          rw [h1] at q
          refine iteT ⟨_, rfl, ⟨_, rfl⟩, z, rfl, rfl, trivial, _, rfl, ?_⟩
          cases h2 : PySem.Txt.isalpha z with
          | false => rw [h2] at q; exact iteF q
          | true =>
            rw [h2] at q
            exact iteT ⟨_, rfl, ⟨_, rfl⟩, z, rfl, rfl, trivial, q⟩
      · refine iteTe (decide_eq_true (by omega)) ?_
        rw [decide_eq_false c] at q
        exact q
    · exact ⟨_, rfl, y, .ty "str", t, _, false, rfl, .ty "str", ty, k, _, rfl, iteT q⟩
end

end K11

namespace K11
open PySem PySem.Spec PyProof.Rows L2 Jg
local macro_rules | `(tactic| walk_at "rd1") => `(tactic| (first
  | refine ⟨_, rfl, ?_⟩
  | refine ⟨_, _, rfl, rfl, ?_⟩
  | refine ⟨_, _, rfl, ?_⟩
  | refine ⟨rfl, ?_⟩
  | (refine ⟨show (0 : Int) < _ by omega, ?_⟩)
  | (refine ⟨Or.inl ⟨by omega, by omega⟩, ?_⟩)
  | (refine ⟨Or.inr ⟨by omega, by omega⟩, ?_⟩)
  | (refine ⟨(⟨by decide, by decide, by decide⟩ : CPow _ _), ?_⟩)
  | refine Or.inl ⟨_, rfl, ?_⟩
  | refine Or.inr ⟨_, rfl, ?_⟩
  | fail "rd"))
local macro_rules | `(tactic| walk_at "rd") => `(tactic| repeat' walk_at "rd1")


/-! ### what is raised -/
structure ExnQ (K : PySem.W.Frag) (mg : Str → Option Value) (x : Str) (CI : Addr) (qual : Str) (st : Stmt) (f : Str) : Prop where
  mg_ : mg x = some (.ref CI)
  ovr : Ovr K CI
  xk : ExcK K CI
  no : PySem.W.findIn K (.ref CI) f = some none
  ini : ∃ fI fd, Fun K "__init__" qual st fI fd ∧ PySem.W.findIn K (.ref CI) "__init__" = some (some (.ref fI)) ∧ PySem.W.typeIn K (.ref fI) = some (.type "function")
  te : PySem.W.exmOne K (.ref CI) (.ref CI) = some true
/-- __init__ of a kind that is being made -/
def spKInit (K : PySem.W.Frag) (C CI : Addr) : Sp := fun vs H Q E => ∃ x dx u v s H0, vs = [.ref x, u, v, s] ∧ H x = some (.ins C dx []) ∧ Same H0 H ∧ H0 x = none ∧
  ((∃ r : Kd, u = .int r.g ∧ v = oV r.a ∧ s = sV r.s ∧ KOk r ∧ ∀ H', KAt C H' x r → (∀ b o, H b = some o → b ≠ x → H' b = some o) → Q .non H') ∨
   (∃ y, ((y = u ∧ bG K H0 u) ∨ (y = v ∧ gG u ∧ bA K H0 v) ∨ (y = s ∧ gG u ∧ gA v ∧ bS K H0 s)) ∧ ∀ d H', H0 d = none → H' d = some (.xd [(("value" : Str), y)]) → Same H0 H' → E (.ref CI) (some d) H'))
/-- a name that is neither gap nor age -/
def NmOdd (K : PySem.W.Frag) (H : Hp) (nm : V) : Prop := (∃ d, (∀ H', Same H H' → Dp K H' nm d) ∧ SeqAt.shaped d = true ∧ PyData.eqv d (.str "gap") = false ∧ PyData.eqv d (.str "age") = false) ∨ ∃ a, nm = .ref a ∧ H a = some (.dK [])
def spChange (K : PySem.W.Frag) (C CI CU : Addr) : Sp := fun vs H Q E => ∃ x r nm y, vs = [.ref x, nm, y] ∧ KAt C H x r ∧
  ((nm = .str "gap" ∧ ((∃ g : Int, y = .int g ∧ 1 ≤ g ∧ g ≤ L ∧ ∀ H', KAt C H' x ⟨g, r.a, r.s⟩ → (∀ b o, H b = some o → b ≠ x → H' b = some o) → Q (.int r.g) H') ∨
      (bG K H y ∧ ∀ d H', H d = none → H' d = some (.xd [(("value" : Str), y)]) → Same H H' → E (.ref CI) (some d) H'))) ∨
   (nm = .str "age" ∧ ((∃ a, y = oV a ∧ aOk a ∧ ∀ H', KAt C H' x ⟨r.g, a, r.s⟩ → (∀ b o, H b = some o → b ≠ x → H' b = some o) → Q (oV r.a) H') ∨
      (bA K H y ∧ ∀ d H', H d = none → H' d = some (.xd [(("value" : Str), y)]) → Same H H' → E (.ref CI) (some d) H'))) ∨
   (NmOdd K H nm ∧ ∀ d H', H d = none → H' d = some (.xd [(("name" : Str), nm)]) → Same H H' → E (.ref CU) (some d) H'))
theorem shaped_str {x : Str} (ok : PyData.strOk x = true) : SeqAt.shaped (.str x) = true := by
  have e1 : (PyData.str x).canLay0 = true := by simp [PyData.canLay0, ok]
  have e2 : (PyData.str x).depth ≤ 64 := by first | (simp [PyData.depth]; done) | (show 0 ≤ 64; decide)
  exact Bool.and_eq_true_iff.mpr ⟨e1, decide_eq_true e2⟩
theorem oV_non {K : PySem.W.Frag} {a : Option Int} : decide (oV a = .non) = a.isNone := by cases a <;> rfl
section
variable {P : Program} {w : World} {K : PySem.W.Frag} {mg : Str → Option Value} {base : Heap} {C CI CU : Addr}
abbrev s_InvalidKind_init : Stmt := inClass (top 3) 0
theorem sc_InvalidKind_init : FnScope ["self", "value"] ["self", "value"] (defScope s_InvalidKind_init) := ⟨rfl, rfl, rfl, by decide +kernel, rfl, by decide +kernel, by decide +kernel⟩
theorem ok_kinit (D : ExnQ K mg "InvalidKind" CI "InvalidKind.__init__" s_InvalidKind_init "value") : ExnB P w K mg base 1 "InvalidKind" CI (spX CI "value") := by
  obtain ⟨fI, fd, F, a, ty⟩ := D.ini
  refine ⟨D.mg_, D.ovr, fI, fd, _, F.ok sc_InvalidKind_init (fun vs H Q E h => ?_) (fun cdv A outer s H vs Q E hr h => ?_), a, ty, F.binds (fun _ _ _ _ _ _ us hl => match us, hl with | [_, _], _ => rfl)⟩
  · obtain ⟨a, y, rfl, _⟩ := h; rfl
  · obtain ⟨a, y, rfl, ha, k⟩ := h
    exact ⟨_, (pss_one (ps_keep (pv 0) (pv 1))), _, rfl, _, rfl, a, CI, rfl, D.ovr, D.no, ha, fun dx n e => k dx n e⟩
abbrev s_UnknownName_init : Stmt := inClass (top 4) 0
theorem sc_UnknownName_init : FnScope ["self", "name"] ["self", "name"] (defScope s_UnknownName_init) := ⟨rfl, rfl, rfl, by decide +kernel, rfl, by decide +kernel, by decide +kernel⟩
theorem ok_uinit (D : ExnQ K mg "UnknownName" CU "UnknownName.__init__" s_UnknownName_init "name") : ExnB P w K mg base 1 "UnknownName" CU (spX CU "name") := by
  obtain ⟨fI, fd, F, a, ty⟩ := D.ini
  refine ⟨D.mg_, D.ovr, fI, fd, _, F.ok sc_UnknownName_init (fun vs H Q E h => ?_) (fun cdv A outer s H vs Q E hr h => ?_), a, ty, F.binds (fun _ _ _ _ _ _ us hl => match us, hl with | [_, _], _ => rfl)⟩
  · obtain ⟨a, y, rfl, _⟩ := h; rfl
  · obtain ⟨a, y, rfl, ha, k⟩ := h
    exact ⟨_, (pss_one (ps_keep (pv 0) (pv 1))), _, rfl, _, rfl, a, CU, rfl, D.ovr, D.no, ha, fun dx n e => k dx n e⟩
abbrev s_checked_gap : Stmt := top 12
theorem sc_checked_gap : FnScope ["value"] ["value"] (defScope s_checked_gap) := ⟨rfl, rfl, rfl, by decide +kernel, rfl, by decide +kernel, by decide +kernel⟩
theorem ok_cg (D : DefK K mg "_checked_gap" s_checked_gap) (T : Txt K mg C) (G_is_between : Cal P w K mg base CX0 2 "is_between" (spBtwn K)) (G_InvalidKind : ExnB P w K mg base 1 "InvalidKind" CI (spX CI "value")) : Cal P w K mg base (L2.CX P w) 3 "_checked_gap" (spChk gG (bG K) CI) := by
  refine D.calX sc_checked_gap (fun _ _ _ _ _ _ us hl => match us, hl with | [_], _ => rfl) (fun vs H Q E h => ?_) fun f cdv A outer s H vs Q E hr h => ?_
  · obtain ⟨y, rfl, _⟩ := h; rfl
  · obtain ⟨y, rfl, h⟩ := h
    refine ⟨_, (pss_cons (ps_if (pt_not (pt_val (pe_c G_is_between hr (by decide) rfl (pa_cons (pv 0) (pa_cons pe_int (pa_cons (pe_gc rfl T.gLONGEST) pa_nil)))))) (pss_one (ps_raise rfl (takes_of rfl rfl rfl rfl) (pmk_b G_InvalidKind hr (by decide) rfl (pa_cons (pv 0) pa_nil)))) pss_nil)
      (pss_one (ps_ret (pv 0)))), ?_⟩
    rcases h with ⟨⟨g, rfl, g1, g2⟩, q⟩ | ⟨bad, k⟩
    · refine ⟨_, rfl, .int g, 1, L, rfl, .inl ⟨g, rfl, _, rfl, ?_⟩⟩
      rw [decide_eq_true g1, decide_eq_true g2]
      exact iteF ⟨_, rfl, q⟩
    · rcases bad with ⟨i, rfl, e⟩ | no
      · refine ⟨_, rfl, .int i, 1, L, rfl, .inl ⟨i, rfl, _, rfl, ?_⟩⟩
        rw [e]
        exact iteT ⟨_, rfl, x_read fun d nd => k d nd⟩
      · exact ⟨_, rfl, y, 1, L, rfl, .inr ⟨no, _, rfl, iteT ⟨_, rfl, x_read fun d nd => k d nd⟩⟩⟩
abbrev s_checked_age : Stmt := top 13
theorem sc_checked_age : FnScope ["value"] ["value"] (defScope s_checked_age) := ⟨rfl, rfl, rfl, by decide +kernel, rfl, by decide +kernel, by decide +kernel⟩
theorem ok_ca (D : DefK K mg "_checked_age" s_checked_age) (T : Txt K mg C) (G_is_between : Cal P w K mg base CX0 2 "is_between" (spBtwn K)) (G_InvalidKind : ExnB P w K mg base 1 "InvalidKind" CI (spX CI "value")) : Cal P w K mg base (L2.CX P w) 3 "_checked_age" (spChk gA (bA K) CI) := by
  refine D.calX sc_checked_age (fun _ _ _ _ _ _ us hl => match us, hl with | [_], _ => rfl) (fun vs H Q E h => ?_) fun f cdv A outer s H vs Q E hr h => ?_
  · obtain ⟨y, rfl, _⟩ := h; rfl
  · obtain ⟨y, rfl, h⟩ := h
    refine ⟨_, (pss_cons (ps_if (PW.pt (pw_and (pt_cmpR op_notN (pv 0) pe_non (nomark _)) (pw_and1 (pt_not (pt_val (pe_c G_is_between hr (by decide) rfl (pa_cons (pv 0) (pa_cons pe_int (pa_cons (pe_gc rfl T.gLONGEST) pa_nil))))))))) (pss_one (ps_raise rfl (takes_of rfl rfl rfl rfl) (pmk_b G_InvalidKind hr (by decide) rfl (pa_cons (pv 0) pa_nil)))) pss_nil)
      (pss_one (ps_ret (pv 0)))), ?_⟩
    rcases h with ⟨⟨a, rfl, ok⟩, q⟩ | ⟨⟨nn, bad⟩, k⟩
    · cases a with
      | none => exact ⟨_, rfl, rfl, _, rfl, iteF ⟨_, rfl, q⟩⟩
      | some i =>
        refine ⟨_, rfl, rfl, _, rfl, iteT ⟨_, rfl, .int i, 0, L, rfl, .inl ⟨i, rfl, _, rfl, ?_⟩⟩⟩
        have o := ok i rfl
        rw [decide_eq_true o.1, decide_eq_true o.2]
        exact iteF ⟨_, rfl, q⟩
    · refine ⟨_, rfl, rfl, _, rfl, ?_⟩
      rw [decide_eq_false nn]
      rcases bad with ⟨i, rfl, e⟩ | no
      · refine iteT ⟨_, rfl, .int i, 0, L, rfl, .inl ⟨i, rfl, _, rfl, ?_⟩⟩
        rw [e]
        exact iteT ⟨_, rfl, x_read fun d nd => k d nd⟩
      · exact iteT ⟨_, rfl, y, 0, L, rfl, .inr ⟨no, _, rfl, iteT ⟨_, rfl, x_read fun d nd => k d nd⟩⟩⟩
abbrev s_checked_source : Stmt := top 14
theorem sc_checked_source : FnScope ["value"] ["value"] (defScope s_checked_source) := ⟨rfl, rfl, rfl, by decide +kernel, rfl, by decide +kernel, by decide +kernel⟩
theorem ok_cs (D : DefK K mg "_checked_source" s_checked_source) (T : Txt K mg C) (G_is_word : Cal P w K mg base CX0 1 "is_word" (spWord K)) (G_InvalidKind : ExnB P w K mg base 1 "InvalidKind" CI (spX CI "value")) : Cal P w K mg base (L2.CX P w) 3 "_checked_source" (spChk gS (bS K) CI) := by
  refine D.calX sc_checked_source (fun _ _ _ _ _ _ us hl => match us, hl with | [_], _ => rfl) (fun vs H Q E h => ?_) fun f cdv A outer s H vs Q E hr h => ?_
  · obtain ⟨y, rfl, _⟩ := h; rfl
  · obtain ⟨y, rfl, h⟩ := h
    refine ⟨_, (pss_cons (ps_if (PW.pt (pw_and (pt_cmpR op_notN (pv 0) pe_non (nomark _)) (pw_and1 (pt_not (pt_val (pe_c G_is_word hr (by decide) rfl (pa_cons (pv 0) pa_nil))))))) (pss_one (ps_raise rfl (takes_of rfl rfl rfl rfl) (pmk_b G_InvalidKind hr (by decide) rfl (pa_cons (pv 0) pa_nil)))) pss_nil)
      (pss_one (ps_ret (pv 0)))), ?_⟩
    rcases h with ⟨⟨s, rfl, ok⟩, q⟩ | ⟨⟨nn, bad⟩, k⟩
    · cases s with
      | none => exact ⟨_, rfl, rfl, _, rfl, iteF ⟨_, rfl, q⟩⟩
      | some z =>
        have o := ok z rfl
        refine ⟨_, rfl, rfl, _, rfl, iteT ⟨_, rfl, .str z, rfl, .inl ⟨z, rfl, o.1, _, rfl, ?_⟩⟩⟩
        rw [o.2]
        exact iteF ⟨_, rfl, q⟩
    · refine ⟨_, rfl, rfl, _, rfl, ?_⟩
      rw [decide_eq_false nn]
      rcases bad with ⟨z, rfl, hz, e⟩ | ⟨t, ty, kt⟩
      · refine iteT ⟨_, rfl, .str z, rfl, .inl ⟨z, rfl, hz, _, rfl, ?_⟩⟩
        rw [e]
        exact iteT ⟨_, rfl, x_read fun d nd => k d nd⟩
      · exact iteT ⟨_, rfl, y, rfl, .inr ⟨t, ty _ (.refl _), kt, _, rfl, iteT ⟨_, rfl, x_read fun d nd => k d nd⟩⟩⟩
abbrev s_Kind_init : Stmt := inClass (top 15) 0
theorem sc_Kind_init : FnScope ["self", "gap", "age", "source"] ["self", "gap", "age", "source"] (defScope s_Kind_init) := ⟨rfl, rfl, rfl, by decide +kernel, rfl, by decide +kernel, by decide +kernel⟩
theorem body_kinit (T : Txt K mg C) (G_checked_gap : Cal P w K mg base (L2.CX P w) 3 "_checked_gap" (spChk gG (bG K) CI)) (G_checked_age : Cal P w K mg base (L2.CX P w) 3 "_checked_age" (spChk gA (bA K) CI)) (G_checked_source : Cal P w K mg base (L2.CX P w) 3 "_checked_source" (spChk gS (bS K) CI))
    (f : Addr) : BodyX P w K mg base ["self", "gap", "age", "source"] "Kind.__init__" s_Kind_init f 4 (spKInit K C CI) := by
  intro cdv A outer s H vs Q E hr h
  obtain ⟨x, dx, u, v, so, H0, rfl, hx, s0, n0, h⟩ := h
  refine ⟨_, (pss_cons (ps_fld (pv 0) (pe_cS G_checked_gap (takes_of rfl rfl rfl rfl) hr (by decide) rfl (pa_cons (pv 1) pa_nil)) rfl)
      (pss_cons (ps_fld (pv 0) (pe_cS G_checked_age (takes_of rfl rfl rfl rfl) hr (by decide) rfl (pa_cons (pv 2) pa_nil)) rfl)
      (pss_one (ps_fld (pv 0) (pe_cS G_checked_source (takes_of rfl rfl rfl rfl) hr (by decide) rfl (pa_cons (pv 3) pa_nil)) rfl)))), ?_⟩
  have npos : (0 : Nat) < 1000 := by decide
  have one : (1 : Nat) < 1000 := by decide
  have two : (2 : Nat) < 1000 := by decide
  rcases h with ⟨r, rfl, rfl, rfl, ok, q⟩ | ⟨y, hy, k⟩
  · refine ⟨_, rfl, .int r.g, rfl, .inl ⟨⟨r.g, rfl, ok.g⟩, _, rfl, x, C, dx, [], rfl, hx, T.cl, T.ng, npos, ?_⟩⟩
    rw [show putF "_gap" (V.int r.g) [] = [(("_gap" : Str), V.int r.g)] from rfl]
    refine ⟨_, rfl, oV r.a, rfl, .inl ⟨⟨r.a, rfl, ok.a⟩, _, rfl, x, C, dx, _, rfl, upd_same, T.cl, T.na, one, ?_⟩⟩
    rw [put_a, upd_upd]
    refine ⟨_, rfl, sV r.s, rfl, .inl ⟨⟨r.s, rfl, ok.s⟩, _, rfl, x, C, dx, _, rfl, upd_same, T.cl, T.ns, two, ?_⟩⟩
    rw [put_s, upd_upd]
    exact q _ ⟨dx, upd_same⟩ fun b o e n => by rw [upd_ne n]; exact e
  · rcases hy with ⟨rfl, bad⟩ | ⟨rfl, ⟨g, rfl, g1⟩, bad⟩ | ⟨rfl, ⟨g, rfl, g1⟩, ⟨a, rfl, a1⟩, bad⟩
    · exact ⟨_, rfl, y, rfl, .inr ⟨bad.keep s0, fun d nd => k d _ (s0.free nd) upd_same (same_new' s0 nd)⟩⟩
    · refine ⟨_, rfl, .int g, rfl, .inl ⟨⟨g, rfl, g1⟩, _, rfl, x, C, dx, [], rfl, hx, T.cl, T.ng, npos, ?_⟩⟩
      have s1 := same_mut (o := .ins C dx (putF "_gap" (V.int g) [])) s0 n0
      exact ⟨_, rfl, y, rfl, .inr ⟨⟨bad.1, bad.2.keep s1⟩, fun d nd => k d _ (s1.free nd) upd_same (same_new' s1 nd)⟩⟩
    · refine ⟨_, rfl, .int g, rfl, .inl ⟨⟨g, rfl, g1⟩, _, rfl, x, C, dx, [], rfl, hx, T.cl, T.ng, npos, ?_⟩⟩
      refine ⟨_, rfl, oV a, rfl, .inl ⟨⟨a, rfl, a1⟩, _, rfl, x, C, dx, _, rfl, upd_same, T.cl, T.na, one, ?_⟩⟩
      rw [upd_upd]
      have s1 := same_mut (o := .ins C dx (putF "_age" (oV a) (putF "_gap" (V.int g) []))) s0 n0
      exact ⟨_, rfl, y, rfl, .inr ⟨⟨bad.1, bad.2.keep s1⟩, fun d nd => k d _ (s1.free nd) upd_same (same_new' s1 nd)⟩⟩
abbrev s_Kind_change : Stmt := inClass (top 15) 6
theorem sc_Kind_change : FnScope ["self", "name", "value", "earlier"] ["self", "name", "value"] (defScope s_Kind_change) := ⟨rfl, rfl, rfl, by decide +kernel, rfl, by decide +kernel, by decide +kernel⟩
theorem ok_change (D : MetK K C "change" "Kind.change" s_Kind_change) (T : Txt K mg C) (G_checked_gap : Cal P w K mg base (L2.CX P w) 3 "_checked_gap" (spChk gG (bG K) CI)) (G_checked_age : Cal P w K mg base (L2.CX P w) 3 "_checked_age" (spChk gA (bA K) CI)) (G_UnknownName : ExnB P w K mg base 1 "UnknownName" CU (spX CU "name")) :
    Met P w K mg base (L2.CX P w) 5 C "change" (spChange K C CI CU) := by
  refine D.metX sc_Kind_change (fun _ _ _ _ _ _ us hl => match us, hl with | [_, _, _], _ => rfl) (fun vs H Q E h => ?_) fun f cdv A outer s H vs Q E hr h => ?_
  · obtain ⟨x, r, nm, y, rfl, _⟩ := h; rfl
  · obtain ⟨x, r, nm, y, rfl, ⟨dx, hx⟩, h⟩ := h
    refine ⟨_, (pss_cons (ps_if (pt_cmpR (op_eqY hr.units) (pv 1) pe_str (nomark _)) (pss_cons (ps_set (i := 3) sc_Kind_change.nd rfl (Or.inl rfl) (pe_fld (pv 0) rfl))
      (pss_one (ps_fld (pv 0) (pe_cS G_checked_gap (takes_of rfl rfl rfl rfl) hr (by decide) rfl (pa_cons (pv 2) pa_nil)) rfl))) (pss_one (ps_if (pt_cmpR (op_eqY hr.units) (pv 1) pe_str (nomark _)) (pss_cons (ps_set (i := 3) sc_Kind_change.nd rfl (Or.inl rfl) (pe_fld (pv 0) rfl))
      (pss_one (ps_fld (pv 0) (pe_cS G_checked_age (takes_of rfl rfl rfl rfl) hr (by decide) rfl (pa_cons (pv 2) pa_nil)) rfl))) (pss_one (ps_raise rfl (takes_of rfl rfl rfl rfl) (pmk_b G_UnknownName hr (by decide) rfl (pa_cons (pv 1) pa_nil)))))))
      (pss_one (ps_ret (pv 3)))), ?_⟩
    have three : (3 : Nat) < 1000 := by decide
    have sg : SeqAt.shaped (.str "gap") = true := shaped_str (by decide +kernel)
    have sa : SeqAt.shaped (.str "age") = true := shaped_str (by decide +kernel)
    rcases h with ⟨rfl, h⟩ | ⟨rfl, h⟩ | ⟨⟨d0, od, sh, e1, e2⟩ | ⟨a0, rfl, e0⟩, k⟩
    · refine ⟨_, rfl, .inl ⟨.str "gap", .str "gap", .str _, .str _, sg, sg, _, rfl, iteTe (by simp [PyData.eqv]) ?_⟩⟩
      refine ⟨_, rfl, x, C, dx, _, _, rfl, hx, T.cl, T.ng, get_g _ _ _, ?_⟩
      rcases h with ⟨g, rfl, g1, g2, q⟩ | ⟨bad, k⟩
      · refine ⟨_, rfl, .int g, rfl, .inl ⟨⟨g, rfl, g1, g2⟩, _, rfl, x, C, dx, _, rfl, hx, T.cl, T.ng, three, ?_⟩⟩
        refine ⟨_, rfl, ?_⟩
        rw [show kflds r = kf (.int r.g) (oV r.a) (sV r.s) from rfl, put_g2]
        exact q _ ⟨dx, upd_same⟩ fun b o e n => by rw [upd_ne n]; exact e
      · exact ⟨_, rfl, y, rfl, .inr ⟨bad, fun d nd => k d _ nd upd_same (same_new nd)⟩⟩
    · refine ⟨_, rfl, .inl ⟨.str "age", .str "gap", .str _, .str _, sa, sg, _, rfl, iteFe (by simp [PyData.eqv]; decide) ?_⟩⟩
      refine ⟨_, rfl, .inl ⟨.str "age", .str "age", .str _, .str _, sa, sa, _, rfl, iteTe (by simp [PyData.eqv]) ?_⟩⟩
      refine ⟨_, rfl, x, C, dx, _, _, rfl, hx, T.cl, T.na, get_a _ _ _, ?_⟩
      rcases h with ⟨a, rfl, ok, q⟩ | ⟨bad, k⟩
      · refine ⟨_, rfl, oV a, rfl, .inl ⟨⟨a, rfl, ok⟩, _, rfl, x, C, dx, _, rfl, hx, T.cl, T.na, three, ?_⟩⟩
        refine ⟨_, rfl, ?_⟩
        rw [show kflds r = kf (.int r.g) (oV r.a) (sV r.s) from rfl, put_a2]
        exact q _ ⟨dx, upd_same⟩ fun b o e n => by rw [upd_ne n]; exact e
      · exact ⟨_, rfl, y, rfl, .inr ⟨bad, fun d nd => k d _ nd upd_same (same_new nd)⟩⟩
    · refine ⟨_, rfl, .inl ⟨d0, .str "gap", od _ (.refl _), .str _, sh, sg, _, rfl, iteFe e1 ?_⟩⟩
      refine ⟨_, rfl, .inl ⟨d0, .str "age", od _ (.refl _), .str _, sh, sa, _, rfl, iteFe e2 ?_⟩⟩
      exact ⟨_, rfl, x_read fun d nd => k d _ nd upd_same (same_new nd)⟩
    · refine ⟨_, rfl, .inr ⟨a0, _, rfl, rfl, e0, _, rfl, iteF ?_⟩⟩
      refine ⟨_, rfl, .inr ⟨a0, _, rfl, rfl, e0, _, rfl, iteF ?_⟩⟩
      exact ⟨_, rfl, x_read fun d nd => k d _ nd upd_same (same_new nd)⟩
end

end K11

namespace K11
open PySem PySem.Spec PyProof.Rows L2 Jg
local macro_rules | `(tactic| walk_at "rd1") => `(tactic| (first
  | refine ⟨_, rfl, ?_⟩
  | refine ⟨_, _, rfl, rfl, ?_⟩
  | refine ⟨_, _, rfl, ?_⟩
  | refine ⟨rfl, ?_⟩
  | (refine ⟨show (0 : Int) < _ by omega, ?_⟩)
  | (refine ⟨Or.inl ⟨by omega, by omega⟩, ?_⟩)
  | (refine ⟨Or.inr ⟨by omega, by omega⟩, ?_⟩)
  | (refine ⟨(⟨by decide, by decide, by decide⟩ : CPow _ _), ?_⟩)
  | refine Or.inl ⟨_, rfl, ?_⟩
  | refine Or.inr ⟨_, rfl, ?_⟩
  | fail "rd"))
local macro_rules | `(tactic| walk_at "rd") => `(tactic| repeat' walk_at "rd1")


/-! ### draws -/
theorem seq_upd {K : PySem.W.Frag} {H : Hp} {l p : Addr} {xs : List V} {o : HO} (h : SqL K H l xs) (n : l ≠ p) : SqL K (upd H p o) l xs := by
  rcases h with (h | ⟨z, h⟩) | h
  · exact .inl (.inl (by rw [upd_ne n]; exact h))
  · exact .inl (.inr ⟨z, by rw [upd_ne n]; exact h⟩)
  · exact .inr h
def spStream (K : PySem.W.Frag) : Sp := fun vs H Q _ => ∃ (a : Addr) (ns : List Int) (k : Nat), vs = [.ref a, .int k] ∧ SqL K H a (ns.map V.int) ∧ k ≤ 1000 ∧
  ∀ p x y, H p = none → 0 ≤ x → Q (.ref p) (upd H p (.lst [.int x, .int y]))
def spDraw : Sp := fun vs H Q _ => ∃ p a b n, vs = [.ref p, .int n] ∧ H p = some (.lst [.int a, .int b]) ∧ 0 ≤ a ∧ 0 < n ∧ n.natAbs < 2 ^ 300 ∧
  ∀ v a' b', 0 ≤ v → v < n → 0 ≤ a' → Q (.int v) (upd H p (.lst [.int a', .int b']))
/-- from a list, or a sign of a text -/
def spChoose (K : PySem.W.Frag) : Sp := fun vs H Q _ => ∃ p y a b, vs = [.ref p, y] ∧ H p = some (.lst [.int a, .int b]) ∧ 0 ≤ a ∧
  ((∃ l xs, y = .ref l ∧ SqL K H l xs ∧ l ≠ p ∧ 0 < xs.length ∧ xs.length < 1000 ∧ ∀ (i : Nat) (v : V) (a' b' : Int), xs[i]? = some v → 0 ≤ a' → Q v (upd H p (.lst [.int a', .int b']))) ∨
   (∃ z : Str, y = .str z ∧ 0 < z.length ∧ z.length < 1000 ∧ ∀ (c : Nat) (a' b' : Int), c ∈ z.cps.toList → 0 ≤ a' → Q (.str ⟨#[c]⟩) (upd H p (.lst [.int a', .int b']))))
theorem i1000 {n : Int} (h0 : 0 ≤ n) (h : n < 1000) : n.natAbs < 2 ^ 300 := by
  have : n.natAbs < 1024 := by omega
  exact Nat.lt_of_lt_of_le this (by decide +kernel)
/-- all stays, but what stands at p -/
def SameB (p : Addr) (H H' : Hp) : Prop := ∀ q o, H q = some o → q ≠ p → H' q = some o
theorem SameB.refl (p : Addr) (H : Hp) : SameB p H H := fun _ _ e _ => e
theorem SameB.trans {p : Addr} {H H1 H2 : Hp} (a : SameB p H H1) (b : SameB p H1 H2) : SameB p H H2 := fun q o e n => b q o (a q o e n) n
theorem SameB.of {p : Addr} {H H1 : Hp} (a : Same H H1) : SameB p H H1 := fun q o e _ => a q o e
theorem SameB.new {p l : Addr} {H H1 : Hp} {o : HO} (a : SameB p H H1) (h : H1 l = none) : SameB p H (upd H1 l o) := fun q u e n => by
  have z := a q u e n
  rw [upd_ne (ne_of_none z h)]
  exact z
theorem SameB.mut {p : Addr} {H H1 : Hp} {o : HO} (a : SameB p H H1) : SameB p H (upd H1 p o) := fun q u e n => by
  rw [upd_ne n]
  exact a q u e n
theorem SameB.out {p : Addr} {H H1 H2 : Hp} (a : Same H H1) (b : SameB p H1 H2) (n : H p = none) : Same H H2 := fun q o e => b q o (a q o e) (ne_of_none e n)
def StA (H : Hp) (p : Addr) : Prop := ∃ a b, H p = some (.lst [.int a, .int b]) ∧ 0 ≤ a
theorem StA.ne {H : Hp} {p l : Addr} (h : StA H p) (n : H l = none) : l ≠ p := fun z => by
  obtain ⟨a, b, e, _⟩ := h
  rw [z, e] at n
  cases n
theorem yes_if {σ : L2.St} {H : Hp} {A B : Hp → Prop} (h : A H) : tYes σ H (fun b H3 => if b = true then A H3 else B H3) := by
  show (if true = true then A H else B H)
  rw [if_pos rfl]
  exact h
theorem ne_dec {x y : Int} : decide (V.int x = V.int y) = decide (x = y) := by
  by_cases c : x = y
  · rw [c, decide_eq_true rfl, decide_eq_true rfl]
  · rw [decide_eq_false c, decide_eq_false fun z => c (V.int.inj z)]
theorem p30 : (10 : Int) ^ (30 : Int).toNat = 1000000000000000000000000000000 := by decide +kernel
theorem p20 : (10 : Int) ^ (20 : Int).toNat = 100000000000000000000 := by decide +kernel
theorem p9 : (10 : Int) ^ (9 : Int).toNat = 1000000000 := by decide +kernel
theorem SameB.free {p l : Addr} {H H' : Hp} (s : SameB p H H') (n : H' l = none) (np : l ≠ p) : H l = none := by
  cases e : H l with
  | none => rfl
  | some o =>
    have z := s l o e np
    rw [n] at z; cases z
/-! ### letters -/
def AZ (z : Str) : Prop := ∀ c ∈ z.cps.toList, 97 ≤ c ∧ c ≤ 122
theorem az_app {a b : Str} (h1 : AZ a) (h2 : AZ b) : AZ (a ++ b) := fun c h => by
  rw [Str.cps_append, Array.toList_append, List.mem_append] at h
  exact h.elim (h1 c) (h2 c)
theorem az_one {c : Nat} (h : 97 ≤ c ∧ c ≤ 122) : AZ ⟨#[c]⟩ := fun d hd => by
  have e : d = c := by simpa using hd
  rw [e]; exact h
def letters : Str := "abcdefghijklmnopqrstuvwxyz"
theorem letters_az : AZ letters := by
  have h : ∀ c ∈ letters.cps.toList, 97 ≤ c ∧ c ≤ 122 := by decide +kernel
  exact h
theorem letters_len : letters.length = 26 := by decide +kernel
/-- single signs, joined -/
def Ones (ys : List Str) : Prop := ∀ y ∈ ys, AZ y ∧ y.length = 1
theorem join_az : ∀ ys : List Str, Ones ys → AZ (Str.join Str.empty ys) ∧ (Str.join Str.empty ys).length = ys.length
  | [], _ => ⟨(fun c h => by cases h), rfl⟩
  | [x], h => ⟨(h x (by simp)).1, (h x (by simp)).2⟩
  | x :: y :: r, h => by
    obtain ⟨h1, h2⟩ := join_az (y :: r) fun z hz => h z (List.mem_cons_of_mem _ hz)
    have e : Str.join Str.empty (x :: y :: r) = x ++ Str.join Str.empty (y :: r) := by
      show x ++ Str.empty ++ Str.join Str.empty (y :: r) = _
      rw [Str.append_empty]
    rw [e]
    refine ⟨az_app (h x (by simp)).1 h1, ?_⟩
    rw [Str.length_append, h2, (h x (by simp)).2, List.length_cons, List.length_cons, List.length_cons]
    omega
theorem ones_sum : ∀ ys : List Str, Ones ys → (ys.map (·.length)).sum = ys.length
  | [], _ => rfl
  | x :: r, h => by
    rw [List.map_cons, List.sum_cons, ones_sum r fun z hz => h z (List.mem_cons_of_mem _ hz), (h x (by simp)).2, List.length_cons]
    omega
theorem az_sign : ∀ c : Nat, 97 ≤ c → c ≤ 122 → (Unicode.isAlpha c && (Unicode.isLower c && (!Unicode.isUpper c && !Unicode.isTitle c))) = true := by
  intro c h1 h2
  have h : ∀ d ∈ (List.range 26).map (97 + ·), (Unicode.isAlpha d && (Unicode.isLower d && (!Unicode.isUpper d && !Unicode.isTitle d))) = true := by decide +kernel
  exact h c (List.mem_map.mpr ⟨c - 97, List.mem_range.mpr (by omega), by show 97 + (c - 97) = c; omega⟩)
theorem az_all {z : Str} {p : Nat → Bool} (h : AZ z) (hp : ∀ c, 97 ≤ c → c ≤ 122 → p c = true) : z.cps.all p = true := by
  rw [← Array.all_toList]
  exact List.all_eq_true.mpr fun c hc => hp c (h c hc).1 (h c hc).2
theorem az_word {z : Str} (h : AZ z) (h1 : 1 ≤ z.length) (h8 : z.length ≤ 8) : wordB z = true := by
  have pos : 0 < z.cps.toList.length := by
    have e : z.length = z.cps.size := rfl
    rw [Array.length_toList]; omega
  have ha : PySem.Txt.isascii z = true := az_all h fun c _ _ => decide_eq_true (by omega)
  have hb : PySem.Txt.isalpha z = true := by
    unfold PySem.Txt.isalpha
    rw [az_all h fun c h1 h2 => (Bool.and_eq_true_iff.mp (az_sign c h1 h2)).1, Bool.and_true]
    exact decide_eq_true (by omega)
  have hc : PySem.Txt.islower z = true := by
    unfold PySem.Txt.islower
    have k1 : z.cps.any Unicode.isLower = true := by
      rw [← Array.any_toList]
      have m : z.cps.toList[0] ∈ z.cps.toList := List.getElem_mem pos
      exact List.any_eq_true.mpr ⟨_, m, (Bool.and_eq_true_iff.mp (Bool.and_eq_true_iff.mp (az_sign _ (h _ m).1 (h _ m).2)).2).1⟩
    have k2 : (z.cps.any fun c => Unicode.isUpper c || Unicode.isTitle c) = false := by
      rw [← Array.any_toList, List.any_eq_false]
      intro c hc
      have z4 := (Bool.and_eq_true_iff.mp (Bool.and_eq_true_iff.mp (az_sign _ (h _ hc).1 (h _ hc).2)).2).2
      obtain ⟨u1, u2⟩ := Bool.and_eq_true_iff.mp z4
      rw [Bool.not_eq_true'] at u1 u2
      rw [u1, u2]; simp
    rw [k1, k2]; rfl
  unfold wordB
  rw [decide_eq_true h8, ha, hb, hc]; rfl
/-- a word -/
def Wd (z : Str) : Prop := AZ z ∧ 1 ≤ z.length ∧ z.length ≤ 8
theorem Wd.ok {z : Str} (h : Wd z) : z.length ≤ sizeLine ∧ wordB z = true := ⟨by rw [sizeLine_eq]; have := h.2.2; omega, az_word h.1 h.2.1 h.2.2⟩
def spWords : Sp := fun vs H Q _ => ∃ p n, vs = [.ref p, .int n] ∧ 0 ≤ n ∧ n < 900 ∧ StA H p ∧ ∀ (l : Addr) (ws : List Str) (H' : Hp), H l = none → l ≠ p → ws.length = n.toNat → (∀ z ∈ ws, Wd z) → H' l = some (.lst (ws.map V.str)) → StA H' p → SameB p H H' → Q (.ref l) H'
def spNumber : Sp := fun vs H Q _ => ∃ p lo, vs = [.ref p, .int lo] ∧ (lo = 0 ∨ lo = 1) ∧ StA H p ∧ ∀ v a b, lo ≤ v → v ≤ L → 0 ≤ a → Q (.int v) (upd H p (.lst [.int a, .int b]))
def rowV (r : Kd) : List V := [.int r.g, oV r.a, sV r.s]
def KW (r : Kd) : Prop := ∀ z, r.s = some z → Wd z
def spPart (K : PySem.W.Frag) : Sp := fun vs H Q _ => ∃ (p l : Addr) (ws : List Str), vs = [.ref p, .ref l] ∧ StA H p ∧ l ≠ p ∧ SqL K H l (ws.map V.str) ∧ 0 < ws.length ∧ ws.length < 900 ∧ (∀ z ∈ ws, Wd z) ∧
  ∀ r q H', KOk r → KW r → H q = none → q ≠ p → H' q = some (.lst (rowV r)) → StA H' p → SameB p H H' → Q (.ref q) H'
section
variable {P : Program} {w : World} {K : PySem.W.Frag} {mg : Str → Option Value} {base : Heap} {C : Addr}
abbrev s_law_stream : Stmt := top 17
theorem sc_law_stream : FnScope ["script", "k", "cell", "size", "mixed"] ["script", "k"] (defScope s_law_stream) := ⟨rfl, rfl, rfl, by decide +kernel, rfl, by decide +kernel, by decide +kernel⟩
theorem ok_stream (D : DefK K mg "_law_stream" s_law_stream) (T : Txt K mg C) : Cal P w K mg base CX0 1 "_law_stream" (spStream K) := by
  refine D.cal sc_law_stream (fun _ _ _ _ _ _ us hl => match us, hl with | [_, _], _ => rfl) (fun vs H Q E h => ?_) fun f cdv A outer s H vs Q E hr h => ?_
  · obtain ⟨a, ns, k, rfl, _⟩ := h; rfl
  · obtain ⟨a, ns, k, rfl, hS, hk, q⟩ := h
    refine ⟨_, (pss_cons (ps_set (i := 2) sc_law_stream.nd rfl (Or.inl rfl) pe_int)
      (pss_cons (ps_if (pt_cmpR op_lt (pv 1) (pe_callB call_len_seq (by rfl) T.b_len (by decide +kernel) (pa_cons (pv 0) pa_nil)) (nomark _)) (pss_one (ps_set (i := 2) sc_law_stream.nd rfl (Or.inl rfl) (pe_ix (r := rIxL K) ix_list (pv 0) (pv 1) (fun _ _ => rfl)))) pss_nil)
      (pss_cons (ps_set (i := 3) sc_law_stream.nd rfl (Or.inl rfl) (pe_callB (call_max2 rfl) (by rfl) T.b_max (by decide +kernel) (pa_cons (pv 2) (pa_cons (pe_op op_sub (pe_un un_neg pe_int) (pv 2)) pa_nil))))
      (pss_cons (ps_set (i := 4) sc_law_stream.nd rfl (Or.inl rfl) (pe_op op_mod (pe_op op_mul (pe_op op_add (pe_op op_add (pe_op op_add (pe_op op_mod (pv 3) pe_int) (pe_op op_mul (pe_op op_mul pe_int (pv 1)) (pv 1))) (pe_op op_mul pe_int (pv 1))) pe_int) pe_int) pe_int))
      (pss_one (ps_ret (pe_lst (pa_cons (pe_op op_mul (pv 3) (pe_callTy call_int1 (by rfl) T.b_int (by decide +kernel) (pa_cons (pe_cmpR op_ge (pv 3) (pe_op op_pow pe_int pe_int) (nomark _)) pa_nil))) (pa_cons (pv 4) pa_nil))))))))), ?_⟩
    have kb : -(2 ^ 64 : Int) < (k : Int) ∧ (k : Int) < 2 ^ 64 := by omega
    refine ⟨_, rfl, _, rfl, a, _, rfl, .inl hS, _, _, rfl, rfl, _, rfl, ?_⟩
    rw [List.length_map]
    by_cases c : (k : Int) < (ns.length : Int)
    · rw [decide_eq_true c]
      have at_ : (ns.map V.int)[k]? = some (V.int (ns[k]'(by omega))) := by rw [List.getElem?_map, List.getElem?_eq_getElem (by omega)]; rfl
      refine iteT ⟨_, rfl, _, rfl, a, _, _, _, rfl, rfl, hS, atI_nat at_, ?_⟩
      walk_at "rd"
      exact ⟨by show 2 ≤ sizeLine; decide, fun p hp => q p _ _ hp (Int.mul_nonneg (by split <;> omega) (by split <;> omega))⟩
    · rw [decide_eq_false c]
      refine iteF ?_
      walk_at "rd"
      exact ⟨by show 2 ≤ sizeLine; decide, fun p hp => q p _ _ hp (Int.mul_nonneg (by split <;> omega) (by split <;> omega))⟩
abbrev s_law_draw : Stmt := top 18
theorem sc_law_draw : FnScope ["stream", "count", "result"] ["stream", "count"] (defScope s_law_draw) := ⟨rfl, rfl, rfl, by decide +kernel, rfl, by decide +kernel, by decide +kernel⟩
theorem ok_draw (D : DefK K mg "_law_draw" s_law_draw) : Cal P w K mg base CX0 1 "_law_draw" spDraw := by
  refine D.cal sc_law_draw (fun _ _ _ _ _ _ us hl => match us, hl with | [_, _], _ => rfl) (fun vs H Q E h => ?_) fun f cdv A outer s H vs Q E hr h => ?_
  · obtain ⟨p, a, b, n, rfl, _⟩ := h; rfl
  · obtain ⟨p, a, b, n, rfl, hp, ha, hn, hb, q⟩ := h
    have at0 : ∀ x y : Int, atI [V.int x, V.int y] 0 = some (V.int x) := fun _ _ => atI_nat (j := 0) rfl
    have at1 : ∀ x y : Int, atI [V.int x, V.int y] 1 = some (V.int y) := fun _ _ => atI_nat (j := 1) rfl
    have hw : CDivW a n := wide_div hn hb (by decide) (by decide)
    refine ⟨_, (pss_cons (ps_if (pt_cmpR op_gt (pe_ix (r := rIxL K) ix_list (pv 0) pe_int (fun _ _ => rfl)) pe_int (nomark _)) (pss_cons (ps_set (i := 2) sc_law_draw.nd rfl (Or.inl rfl) (pe_op op_mod (pe_ix (r := rIxL K) ix_list (pv 0) pe_int (fun _ _ => rfl)) (pv 1)))
      (pss_cons (ps_asg (pe_op op_fdivW (pe_ix (r := rIxL K) ix_list (pv 0) pe_int (fun _ _ => rfl)) (pv 1)) (pg_sub (pv 0) pe_int set_list))
      (pss_one (ps_ret (pv 2))))) pss_nil)
      (pss_cons (ps_asg (pe_op op_mod (pe_op op_add (pe_op op_mul (pe_ix (r := rIxL K) ix_list (pv 0) pe_int (fun _ _ => rfl)) pe_int) pe_int) pe_int) (pg_sub (pv 0) pe_int set_list))
      (pss_one (ps_ret (pe_op op_mod (pe_op op_fdiv (pe_op op_mod (pe_op op_mul (pe_ix (r := rIxL K) ix_list (pv 0) pe_int (fun _ _ => rfl)) (pe_ix (r := rIxL K) ix_list (pv 0) pe_int (fun _ _ => rfl))) pe_int) pe_int) (pv 1)))))), ?_⟩
    refine ⟨_, rfl, p, _, _, _, rfl, rfl, SqL.of hp, at0 _ _, _, _, rfl, rfl, _, rfl, ?_⟩
    by_cases c : 0 < a
    · rw [decide_eq_true c]
      refine iteT ⟨_, rfl, p, _, _, _, rfl, rfl, SqL.of hp, at0 _ _, _, rfl, _, _, rfl, rfl, hn, ?_⟩
      refine ⟨_, rfl, p, _, _, _, rfl, rfl, SqL.of hp, at0 _ _, _, rfl, _, _, rfl, rfl, hw, ?_⟩
      refine ⟨_, rfl, p, _, _, 0, rfl, rfl, hp, rfl, ?_⟩
      refine ⟨_, rfl, q _ _ _ (Int.emod_nonneg _ (by omega)) (Int.emod_lt_of_pos _ hn) (Int.ediv_nonneg ha (by omega))⟩
    · rw [decide_eq_false c]
      refine iteF ⟨_, rfl, p, _, _, _, rfl, rfl, SqL.of hp, at1 _ _, ?_⟩
      walk_at "rd"
      refine ⟨p, _, _, 1, rfl, rfl, hp, rfl, ?_⟩
      refine ⟨_, rfl, p, _, _, _, rfl, rfl, SqL.of upd_same, at1 _ _, _, rfl, p, _, _, _, rfl, rfl, SqL.of upd_same, at1 _ _, _, _, rfl, rfl, ?_⟩
      have m1 := Int.emod_nonneg (b * 39373 + 7) (show (2147483647 : Int) ≠ 0 by decide)
      have m2 := Int.emod_lt_of_pos (b * 39373 + 7) (show (0 : Int) < 2147483647 by decide)
      refine ⟨.inl ⟨by omega, by omega⟩, _, _, rfl, rfl, show (0 : Int) < _ by decide, _, _, rfl, rfl, ⟨by decide, by decide⟩, _, rfl, _, _, rfl, rfl, hn, ?_⟩
      exact q _ _ _ (Int.emod_nonneg _ (by omega)) (Int.emod_lt_of_pos _ hn) ha
abbrev s_law_choose : Stmt := top 19
theorem sc_law_choose : FnScope ["stream", "items"] ["stream", "items"] (defScope s_law_choose) := ⟨rfl, rfl, rfl, by decide +kernel, rfl, by decide +kernel, by decide +kernel⟩
theorem ok_choose (D : DefK K mg "_law_choose" s_law_choose) (T : Txt K mg C) (G_law_draw : Cal P w K mg base CX0 1 "_law_draw" spDraw) : Cal P w K mg base CX0 2 "_law_choose" (spChoose K) := by
  refine D.cal sc_law_choose (fun _ _ _ _ _ _ us hl => match us, hl with | [_, _], _ => rfl) (fun vs H Q E h => ?_) fun f cdv A outer s H vs Q E hr h => ?_
  · obtain ⟨p, l, a, b, rfl, _⟩ := h; rfl
  · obtain ⟨p, y, a, b, rfl, hp, ha, h⟩ := h
    refine ⟨_, (pss_one (ps_ret (pe_ix (r := rIx K) ix_seq (pv 1) (pe_c G_law_draw hr (by decide) rfl (pa_cons (pv 0) (pa_cons (pe_callB call_len (by rfl) T.b_len (by decide +kernel) (pa_cons (pv 1) pa_nil)) pa_nil))) (fun _ _ => rfl)))), ?_⟩
    rcases h with ⟨l, xs, rfl, hl, n, h0, h1, q⟩ | ⟨z, rfl, h0, h1, q⟩
    · refine ⟨_, rfl, _, rfl, _, rfl, .ref l, xs.length, rfl, .inl ⟨xs, hl, rfl⟩, p, a, b, _, rfl, hp, ha, by omega, i1000 (by omega) (by omega), fun v a' b' v0 v1 a0 => ?_⟩
      have hi : v.toNat < xs.length := by omega
      have ev : xs[v.toNat]? = some (xs[v.toNat]'hi) := List.getElem?_eq_getElem hi
      have ev2 : v = ((v.toNat : Nat) : Int) := by omega
      exact .inl ⟨l, xs, v, _, rfl, rfl, seq_upd hl n, at_of ev2 ev, q v.toNat _ a' b' ev a0⟩
    · have hz : z.length ≤ sizeLine := by rw [sizeLine_eq]; omega
      refine ⟨_, rfl, _, rfl, _, rfl, .str z, z.length, rfl, ⟨hz, rfl⟩, p, a, b, _, rfl, hp, ha, by omega, i1000 (by omega) (by omega), fun v a' b' v0 v1 a0 => ?_⟩
      obtain ⟨j, rfl⟩ : ∃ j : Nat, v = (j : Int) := ⟨v.toNat, by omega⟩
      have hi : j < z.cps.toList.length := by
        have e : z.length = z.cps.size := rfl
        rw [Array.length_toList]; omega
      have ev : z.cps.toList[j]? = some (z.cps.toList[j]'hi) := List.getElem?_eq_getElem hi
      exact .inr (.inr ⟨z, _, _, rfl, rfl, hz, atI_nat ev, q _ a' b' (List.getElem_mem hi) a0⟩)
abbrev s_law_words : Stmt := top 20
theorem sc_law_words : FnScope ["stream", "count", "letters", "head", "tail", "first", "step", "at", "turn"] ["stream", "count"] (defScope s_law_words) := ⟨rfl, rfl, rfl, by decide +kernel, rfl, by decide +kernel, by decide +kernel⟩
theorem ok_words (D : DefK K mg "_law_words" s_law_words) (T : Txt K mg C) (G_law_draw : Cal P w K mg base CX0 1 "_law_draw" spDraw) (G_law_choose : Cal P w K mg base CX0 2 "_law_choose" (spChoose K)) : Cal P w K mg base CX0 3 "_law_words" spWords := by
  refine D.cal sc_law_words (fun _ _ _ _ _ _ us hl => match us, hl with | [_, _], _ => rfl) (fun vs H Q E h => ?_) fun f cdv A outer s H vs Q E hr h => ?_
  · obtain ⟨p, n, rfl, _⟩ := h; rfl
  · obtain ⟨p, n, rfl, n0, n9, ⟨a, b, hp, ha⟩, k⟩ := h
    refine ⟨_, (pss_cons (ps_set (i := 2) sc_law_words.nd rfl (Or.inr rfl) pe_str)
      (pss_cons (ps_asg (pe_tup (pa_cons (pe_c G_law_draw hr (by decide) rfl (pa_cons (pv 0) (pa_cons pe_int pa_nil))) (pa_cons (pe_c G_law_choose hr (by decide) rfl (pa_cons (pv 0) (pa_cons (pe_lst (pa_cons pe_int (pa_cons pe_int (pa_cons pe_int (pa_cons pe_int (pa_cons pe_int (pa_cons pe_int (pa_cons pe_int (pa_cons pe_int (pa_cons pe_int (pa_cons pe_int (pa_cons pe_int (pa_cons pe_int pa_nil))))))))))))) pa_nil))) pa_nil))) (pg_tup rfl (pgs_cons (pg_name (i := 5) sc_law_words.nd rfl (Or.inr rfl)) (pgs_cons (pg_name (i := 6) sc_law_words.nd rfl (Or.inr rfl)) pgs_nil))))
      (pss_cons (ps_set (i := 3) sc_law_words.nd rfl (Or.inr rfl) (pe_join pe_str (pe_lc (own := [("turn", 8)]) (g := gName 8) (by rfl) sc_law_words.nd (pi_range1 (by rfl) T.b_range (pa_cons (pe_c G_law_draw hr (by decide) rfl (pa_cons (pv 0) (pa_cons pe_int pa_nil))) pa_nil)) (blkOk_by (own := [("turn", 8)]) (N := ["stream", "count", "letters", "head", "tail", "first", "step", "at", "turn"]) (sc := defScope s_law_words) (by decide +kernel)) (fun _ _ _ _ _ => pg_name (i := 8) sc_law_words.nd rfl (Or.inl rfl)) (fun _ _ _ _ _ => pts_nil) (fun _ _ _ _ _ => (pe_c G_law_choose hr (by decide) rfl (pa_cons (pv 0) (pa_cons (pv 2) pa_nil)))))))
      (pss_cons (ps_set (i := 4) sc_law_words.nd rfl (Or.inr rfl) (pe_join pe_str (pe_lc (own := [("turn", 8)]) (g := gName 8) (by rfl) sc_law_words.nd (pi_range1 (by rfl) T.b_range (pa_cons (pe_c G_law_draw hr (by decide) rfl (pa_cons (pv 0) (pa_cons pe_int pa_nil))) pa_nil)) (blkOk_by (own := [("turn", 8)]) (N := ["stream", "count", "letters", "head", "tail", "first", "step", "at", "turn"]) (sc := defScope s_law_words) (by decide +kernel)) (fun _ _ _ _ _ => pg_name (i := 8) sc_law_words.nd rfl (Or.inl rfl)) (fun _ _ _ _ _ => pts_nil) (fun _ _ _ _ _ => (pe_c G_law_choose hr (by decide) rfl (pa_cons (pv 0) (pa_cons (pv 2) pa_nil)))))))
      (pss_one (ps_ret (pe_lc (own := [("at", 7)]) (g := gName 7) (by rfl) sc_law_words.nd (pi_range1 (by rfl) T.b_range (pa_cons (pv 1) pa_nil)) (blkOk_by (own := [("at", 7)]) (N := ["stream", "count", "letters", "head", "tail", "first", "step", "at", "turn"]) (sc := defScope s_law_words) (by decide +kernel)) (fun _ _ _ _ _ => pg_name (i := 7) sc_law_words.nd rfl (Or.inl rfl)) (fun _ _ _ _ _ => pts_nil) (fun _ _ _ _ _ => (pe_op op_add_str (pe_op op_add_str (pv 3) (pe_ix (r := rIxS) ix_str (pv 2) (pe_op op_mod (pe_op op_add (pv 5) (pe_op op_mul (pv 6) (pv 7))) pe_int) (fun _ _ => rfl))) (pv 4)))))))))), ?_⟩
    refine ⟨_, rfl, p, a, b, 26, rfl, hp, ha, by decide, by decide +kernel, fun f1 a1 b1 f0 f26 ha1 => ?_⟩
    have s1 := SameB.mut (o := .lst [.int a1, .int b1]) (SameB.refl p H)
    refine ⟨_, rfl, by show 12 ≤ sizeLine; decide, fun l nl => ?_⟩
    have st1 : StA (upd H p (.lst [.int a1, .int b1])) p := ⟨a1, b1, upd_same, ha1⟩
    have lp := st1.ne nl
    refine ⟨p, .ref l, a1, b1, rfl, by rw [upd_ne lp.symm, upd_same], ha1, .inl ⟨l, _, rfl, SqL.of upd_same, lp, by show 0 < 12; decide, by show 12 < 1000; decide, fun j v a2 b2 hv ha2 => ?_⟩⟩
    have hs : ∃ n, v = V.int n ∧ 0 < n ∧ n < 26 := by
      match j, hv with
      | 0, hv => cases hv; exact ⟨_, rfl, by decide, by decide⟩
      | 1, hv => cases hv; exact ⟨_, rfl, by decide, by decide⟩
      | 2, hv => cases hv; exact ⟨_, rfl, by decide, by decide⟩
      | 3, hv => cases hv; exact ⟨_, rfl, by decide, by decide⟩
      | 4, hv => cases hv; exact ⟨_, rfl, by decide, by decide⟩
      | 5, hv => cases hv; exact ⟨_, rfl, by decide, by decide⟩
      | 6, hv => cases hv; exact ⟨_, rfl, by decide, by decide⟩
      | 7, hv => cases hv; exact ⟨_, rfl, by decide, by decide⟩
      | 8, hv => cases hv; exact ⟨_, rfl, by decide, by decide⟩
      | 9, hv => cases hv; exact ⟨_, rfl, by decide, by decide⟩
      | 10, hv => cases hv; exact ⟨_, rfl, by decide, by decide⟩
      | 11, hv => cases hv; exact ⟨_, rfl, by decide, by decide⟩
      | j + 12, hv => cases hv
    obtain ⟨st, rfl, st0, st26⟩ := hs
    have s2 := (s1.new (o := .lst [.int 1, .int 3, .int 5, .int 7, .int 9, .int 11, .int 15, .int 17, .int 19, .int 21, .int 23, .int 25]) nl).mut (o := .lst [.int a2, .int b2])
    refine ⟨by show 2 ≤ sizeLine; decide, fun tp ntp => ?_⟩
    have s3 := s2.new (o := .tup [.int f1, .int st]) ntp
    have tpp : tp ≠ p := fun z => by rw [z, upd_same] at ntp; cases ntp
    refine ⟨tp, _, rfl, SqT.of upd_same, rfl, _, _, rfl, _, _, rfl, rfl, ?_⟩
    have hp3 : (upd (upd (upd (upd H p (.lst [.int a1, .int b1])) l (.lst [.int 1, .int 3, .int 5, .int 7, .int 9, .int 11, .int 15, .int 17, .int 19, .int 21, .int 23, .int 25])) p (.lst [.int a2, .int b2])) tp (.tup [.int f1, .int st])) p = some (.lst [.int a2, .int b2]) := by rw [upd_ne tpp.symm, upd_same]
    revert s3 hp3
    generalize upd (upd (upd (upd H p (.lst [.int a1, .int b1])) l (.lst [.int 1, .int 3, .int 5, .int 7, .int 9, .int 11, .int 15, .int 17, .int 19, .int 21, .int 23, .int 25])) p (.lst [.int a2, .int b2])) tp (.tup [.int f1, .int st]) = H3
    intro s3 hp3
    -- head
    refine ⟨⟨_, rfl⟩, _, rfl, p, a2, b2, 4, rfl, hp3, ha2, by decide, by decide +kernel, fun n1 a3 b3 n10 n14 ha3 => ?_⟩
    refine ⟨n1, rfl, by omega, by omega, fun D nD => ?_⟩
    have st3 : StA (upd H3 p (.lst [.int a3, .int b3])) p := ⟨a3, b3, upd_same, ha3⟩
    have Dp := st3.ne nD
    refine lc_range (lo := 0) (n := n1.toNat) (fun i H' => ∃ ys : List Str, H' D = some (.lst (ys.map V.str)) ∧ Ones ys ∧ ys.length = i ∧ StA H' p ∧ SameB p H H') ⟨[], upd_same, (fun z hz => by cases hz), rfl, ⟨a3, b3, by rw [upd_ne Dp.symm, upd_same], ha3⟩, (s3.mut).new nD⟩ (fun i H4 hi ⟨ys, hD, ho, hl, ⟨a4, b4, hp4, ha4⟩, s4⟩ => ?_) (fun H4 ⟨ys, hD, ho, hl, ⟨a4, b4, hp4, ha4⟩, s4⟩ => ?_)
    · refine ⟨rfl, ?_⟩
      refine yes_if ?_
      refine ⟨_, rfl, _, rfl, p, .str letters, a4, b4, rfl, hp4, ha4, .inr ⟨letters, rfl, by rw [letters_len]; decide, by rw [letters_len]; decide, fun c a5 b5 hc ha5 => ?_⟩⟩
      refine ⟨ys.map V.str, by rw [upd_ne Dp]; exact hD, ?_, ys ++ [⟨#[c]⟩], ?_, ?_, ?_, ⟨a5, b5, by rw [upd_ne Dp.symm, upd_same], ha5⟩, ?_⟩
      · rw [List.length_map, sizeLine_eq]; omega
      · rw [upd_same, List.map_append]; rfl
      · intro z hz
        rcases List.mem_append.mp hz with hz | hz
        · exact ho z hz
        · have e : z = ⟨#[c]⟩ := by simpa using hz
          rw [e]
          exact ⟨az_one (letters_az c hc), rfl⟩
      · rw [List.length_append, hl]; rfl
      · intro q o e n
        have nqD : q ≠ D := fun z => by
          have z1 := (s3.mut (o := .lst [.int a3, .int b3])) q o e n
          rw [z, nD] at z1; cases z1
        rw [upd_ne nqD, upd_ne n]
        exact s4 q o e n
    obtain ⟨hz1, hl1⟩ := join_az ys ho
    refine ⟨_, D, ys, rfl, rfl, .inl (SqL.of hD), by rw [ones_sum ys ho]; show ys.length + ys.length * 0 ≤ _; omega, ?_⟩
    have e0 : Str.ofString "" = Str.empty := by decide +kernel
    have ej : PySem.Txt.join (Str.ofString "") ys = Str.join Str.empty ys := by rw [e0]; exact StrLaws.glued_eq_join _ _
    have hz1' : AZ (PySem.Txt.join (Str.ofString "") ys) := ej ▸ hz1
    have hl1' : (PySem.Txt.join (Str.ofString "") ys).length ≤ 3 := by rw [ej, hl1]; omega
    clear hz1 hl1 ej
    revert hz1' hl1'
    show AZ (PySem.Txt.join (Str.ofString "") ys) → (PySem.Txt.join (Str.ofString "") ys).length ≤ 3 → _
    generalize PySem.Txt.join (Str.ofString "") ys = hd
    intro hz1 hl1
    -- tail
    have sD : SameB p H H4 := s4
    clear st3 nD
    refine ⟨⟨_, rfl⟩, _, rfl, p, a4, b4, 4, rfl, hp4, ha4, by decide, by decide +kernel, fun n2 a6 b6 n20 n24 ha6 => ?_⟩
    refine ⟨n2, rfl, by omega, by omega, fun D2 nD2 => ?_⟩
    have st6 : StA (upd H4 p (.lst [.int a6, .int b6])) p := ⟨a6, b6, upd_same, ha6⟩
    have Dp2 := st6.ne nD2
    refine lc_range (lo := 0) (n := n2.toNat) (fun i H' => ∃ ys : List Str, H' D2 = some (.lst (ys.map V.str)) ∧ Ones ys ∧ ys.length = i ∧ StA H' p ∧ SameB p H H') ⟨[], upd_same, (fun z hz => by cases hz), rfl, ⟨a6, b6, by rw [upd_ne Dp2.symm, upd_same], ha6⟩, (sD.mut).new nD2⟩ (fun i H5 hi ⟨ys, hD, ho, hl, ⟨a7, b7, hp7, ha7⟩, s5⟩ => ?_) (fun H5 ⟨ys, hD, ho, hl, ⟨a7, b7, hp7, ha7⟩, s5⟩ => ?_)
    · refine ⟨rfl, ?_⟩
      refine yes_if ?_
      refine ⟨_, rfl, _, rfl, p, .str letters, a7, b7, rfl, hp7, ha7, .inr ⟨letters, rfl, by rw [letters_len]; decide, by rw [letters_len]; decide, fun c a5 b5 hc ha5 => ?_⟩⟩
      refine ⟨ys.map V.str, by rw [upd_ne Dp2]; exact hD, ?_, ys ++ [⟨#[c]⟩], ?_, ?_, ?_, ⟨a5, b5, by rw [upd_ne Dp2.symm, upd_same], ha5⟩, ?_⟩
      · rw [List.length_map, sizeLine_eq]; omega
      · rw [upd_same, List.map_append]; rfl
      · intro z hz
        rcases List.mem_append.mp hz with hz | hz
        · exact ho z hz
        · have e : z = ⟨#[c]⟩ := by simpa using hz
          rw [e]
          exact ⟨az_one (letters_az c hc), rfl⟩
      · rw [List.length_append, hl]; rfl
      · intro q o e n
        have nqD : q ≠ D2 := fun z => by
          have z1 := (sD.mut (o := .lst [.int a6, .int b6])) q o e n
          rw [z, nD2] at z1; cases z1
        rw [upd_ne nqD, upd_ne n]
        exact s5 q o e n
    obtain ⟨hz2, hl2⟩ := join_az ys ho
    refine ⟨_, D2, ys, rfl, rfl, .inl (SqL.of hD), by rw [ones_sum ys ho]; show ys.length + ys.length * 0 ≤ _; omega, ?_⟩
    have e0 : Str.ofString "" = Str.empty := by decide +kernel
    have ej : PySem.Txt.join (Str.ofString "") ys = Str.join Str.empty ys := by rw [e0]; exact StrLaws.glued_eq_join _ _
    have hz2' : AZ (PySem.Txt.join (Str.ofString "") ys) := ej ▸ hz2
    have hl2' : (PySem.Txt.join (Str.ofString "") ys).length ≤ 3 := by rw [ej, hl2]; omega
    clear hz2 hl2 ej
    revert hz2' hl2'
    show AZ (PySem.Txt.join (Str.ofString "") ys) → (PySem.Txt.join (Str.ofString "") ys).length ≤ 3 → _
    generalize PySem.Txt.join (Str.ofString "") ys = tl
    intro hz2 hl2
    -- the words
    refine ⟨_, rfl, n, rfl, by omega, by omega, fun l3 nl3 => ?_⟩
    have stE : StA H5 p := ⟨a7, b7, hp7, ha7⟩
    have lp3 := stE.ne nl3
    have nlH : H l3 = none := by
      cases e : H l3 with
      | none => rfl
      | some o =>
        have z := s5 l3 o e lp3
        rw [nl3] at z; cases z
    refine lc_range (lo := 0) (n := n.toNat) (fun i H' => ∃ ws : List Str, H' = upd H5 l3 (.lst (ws.map V.str)) ∧ (∀ z ∈ ws, Wd z) ∧ ws.length = i) ⟨[], rfl, (fun z hz => by cases hz), rfl⟩ (fun i H6 hi ⟨ws, e6, hw, hl⟩ => ?_) (fun H6 ⟨ws, e6, hw, hl⟩ => ?_)
    · subst e6
      refine ⟨rfl, ?_⟩
      refine yes_if ?_
      have m0 := Int.emod_nonneg (f1 + st * (0 + (i : Int))) (show (26 : Int) ≠ 0 by decide)
      have m1 := Int.emod_lt_of_pos (f1 + st * (0 + (i : Int))) (show (0 : Int) < 26 by decide)
      obtain ⟨j, ej⟩ : ∃ j : Nat, (f1 + st * (0 + (i : Int))) % 26 = (j : Int) := ⟨((f1 + st * (0 + (i : Int))) % 26).toNat, by omega⟩
      have hj : j < letters.cps.toList.length := by
        have e : letters.cps.toList.length = 26 := by decide +kernel
        omega
      have ev : letters.cps.toList[j]? = some (letters.cps.toList[j]'hj) := List.getElem?_eq_getElem hj
      have hc := letters_az _ (List.getElem_mem hj)
      refine ⟨_, rfl, _, rfl, _, rfl, _, rfl, _, rfl, st, _, rfl, rfl, .inl ⟨by omega, by omega⟩, f1, _, rfl, rfl, _, _, rfl, rfl, (by show (0 : Int) < 26; decide), ?_⟩
      refine ⟨letters, _, _, rfl, rfl, by rw [letters_len, sizeLine_eq]; decide, by rw [ej]; exact atI_nat ev, ?_⟩
      have l1 : (⟨#[letters.cps.toList[j]'hj]⟩ : Str).length = 1 := rfl
      refine ⟨hd, _, rfl, rfl, by rw [l1, sizeLine_eq]; omega, _, rfl, _, tl, rfl, rfl, by rw [Str.length_append, l1, sizeLine_eq]; omega, ?_⟩
      refine ⟨ws.map V.str, upd_same, by rw [List.length_map, sizeLine_eq]; omega, ws ++ [hd ++ ⟨#[letters.cps.toList[j]'hj]⟩ ++ tl], ?_, ?_, ?_⟩
      · rw [upd_upd, List.map_append]; rfl
      · intro z hz
        rcases List.mem_append.mp hz with hz | hz
        · exact hw z hz
        · have e : z = hd ++ ⟨#[letters.cps.toList[j]'hj]⟩ ++ tl := by simpa using hz
          rw [e]
          refine ⟨az_app (az_app hz1 (az_one hc)) hz2, ?_, ?_⟩
          · rw [Str.length_append, Str.length_append, l1]; omega
          · rw [Str.length_append, Str.length_append, l1]; omega
      · rw [List.length_append, hl]; rfl
    · subst e6
      exact k l3 ws _ nlH lp3 hl hw upd_same ⟨a7, b7, by rw [upd_ne lp3.symm]; exact hp7, ha7⟩ (s5.new nl3)
abbrev s_law_number : Stmt := top 21
theorem sc_law_number : FnScope ["stream", "least", "way"] ["stream", "least"] (defScope s_law_number) := ⟨rfl, rfl, rfl, by decide +kernel, rfl, by decide +kernel, by decide +kernel⟩
theorem ok_number (D : DefK K mg "_law_number" s_law_number) (T : Txt K mg C) (G_law_draw : Cal P w K mg base CX0 1 "_law_draw" spDraw) : Cal P w K mg base CX0 2 "_law_number" spNumber := by
  refine D.cal sc_law_number (fun _ _ _ _ _ _ us hl => match us, hl with | [_, _], _ => rfl) (fun vs H Q E h => ?_) fun f cdv A outer s H vs Q E hr h => ?_
  · obtain ⟨p, lo, rfl, _⟩ := h; rfl
  · obtain ⟨p, lo, rfl, hlo, ⟨a, b, hp, ha⟩, k⟩ := h
    refine ⟨_, (pss_cons (ps_set (i := 2) sc_law_number.nd rfl (Or.inl rfl) (pe_c G_law_draw hr (by decide) rfl (pa_cons (pv 0) (pa_cons pe_int pa_nil))))
      (pss_cons (ps_if (pt_cmpR op_eq (pv 2) pe_int (nomark _)) (pss_one (ps_ret (pv 1))) pss_nil)
      (pss_cons (ps_if (pt_cmpR op_eq (pv 2) pe_int (nomark _)) (pss_one (ps_ret (pe_op op_sub (pe_op op_pow pe_int pe_int) (pe_c G_law_draw hr (by decide) rfl (pa_cons (pv 0) (pa_cons pe_int pa_nil)))))) pss_nil)
      (pss_cons (ps_if (pt_cmpR op_eq (pv 2) pe_int (nomark _)) (pss_one (ps_ret (pe_op op_add (pe_op op_add pe_int (pe_op op_mul (pe_c G_law_draw hr (by decide) rfl (pa_cons (pv 0) (pa_cons (pe_op op_pow pe_int pe_int) pa_nil))) (pe_op op_pow pe_int pe_int))) (pe_c G_law_draw hr (by decide) rfl (pa_cons (pv 0) (pa_cons (pe_op op_pow pe_int pe_int) pa_nil)))))) pss_nil)
      (pss_one (ps_ret (pe_op op_add (pv 1) (pe_c G_law_draw hr (by decide) rfl (pa_cons (pv 0) (pa_cons pe_int pa_nil)))))))))), ?_⟩
    have hL := L_eq
    have cp : ∀ j : Int, 0 ≤ j → j ≤ 1000000 → CPow 10 j := fun j h1 h2 => ⟨h1, h2, by decide⟩
    refine ⟨_, rfl, p, a, b, 6, rfl, hp, ha, by decide, by decide +kernel, fun w a1 b1 w0 w6 ha1 => ?_⟩
    refine ⟨_, rfl, rfl, _, rfl, ?_⟩
    rw [ne_dec]
    by_cases c0 : w = 0
    · refine iteTe (decide_eq_true c0) ⟨_, rfl, k lo a1 b1 (by omega) (by omega) ha1⟩
    refine iteFe (decide_eq_false c0) ⟨_, rfl, rfl, _, rfl, ?_⟩
    rw [ne_dec]
    by_cases c1 : w = 1
    · refine iteTe (decide_eq_true c1) ⟨_, _, rfl, rfl, cp _ (by decide) (by decide), _, rfl, p, a1, b1, 2, rfl, upd_same, ha1, by decide, by decide +kernel, fun v a2 b2 v0 v2 ha2 => ?_⟩
      rw [upd_upd]
      refine ⟨_, _, rfl, rfl, k _ a2 b2 ?_ ?_ ha2⟩
      · rw [p30]; omega
      · rw [p30]; omega
    refine iteFe (decide_eq_false c1) ⟨_, rfl, rfl, _, rfl, ?_⟩
    rw [ne_dec]
    by_cases c2 : w = 2
    · refine iteTe (decide_eq_true c2) ⟨_, rfl, _, _, rfl, rfl, cp _ (by decide) (by decide), p, a1, b1, _, rfl, upd_same, ha1, by decide +kernel, by decide +kernel, fun v1 a2 b2 v0 v2 ha2 => ?_⟩
      rw [p9] at v2
      refine ⟨_, _, rfl, rfl, cp _ (by decide) (by decide), _, _, rfl, rfl, .inl ⟨by omega, by omega⟩, _, _, rfl, rfl, _, rfl, _, _, rfl, rfl, cp _ (by decide) (by decide), p, a2, b2, _, rfl, upd_same, ha2, by decide +kernel, by decide +kernel, fun v3 a3 b3 v30 v39 ha3 => ?_⟩
      rw [p9] at v39
      rw [upd_upd, upd_upd]
      refine ⟨_, _, rfl, rfl, k _ a3 b3 ?_ ?_ ha3⟩
      · rw [p20]; omega
      · rw [p20]; omega
    refine iteFe (decide_eq_false c2) ⟨_, rfl, _, rfl, p, a1, b1, 4, rfl, upd_same, ha1, by decide, by decide +kernel, fun v a2 b2 v0 v4 ha2 => ?_⟩
    rw [upd_upd]
    exact ⟨_, _, rfl, rfl, k _ a2 b2 (by omega) (by omega) ha2⟩
abbrev s_law_part : Stmt := top 22
theorem sc_law_part : FnScope ["stream", "words", "aged", "feeder"] ["stream", "words"] (defScope s_law_part) := ⟨rfl, rfl, rfl, by decide +kernel, rfl, by decide +kernel, by decide +kernel⟩
theorem ok_part (D : DefK K mg "_law_part" s_law_part) (T : Txt K mg C) (G_law_draw : Cal P w K mg base CX0 1 "_law_draw" spDraw) (G_law_choose : Cal P w K mg base CX0 2 "_law_choose" (spChoose K)) (G_law_number : Cal P w K mg base CX0 2 "_law_number" spNumber) : Cal P w K mg base CX0 3 "_law_part" (spPart K) := by
  refine D.cal sc_law_part (fun _ _ _ _ _ _ us hl => match us, hl with | [_, _], _ => rfl) (fun vs H Q E h => ?_) fun f cdv A outer s H vs Q E hr h => ?_
  · obtain ⟨p, l, ws, rfl, _⟩ := h; rfl
  · obtain ⟨p, l, ws, rfl, ⟨a, b, hp, ha⟩, lp, hl, w0, w9, hw, k⟩ := h
    refine ⟨_, (pss_cons (ps_asg (pe_tup (pa_cons pe_non (pa_cons pe_non pa_nil))) (pg_tup rfl (pgs_cons (pg_name (i := 2) sc_law_part.nd rfl (Or.inl rfl)) (pgs_cons (pg_name (i := 3) sc_law_part.nd rfl (Or.inl rfl)) pgs_nil))))
      (C8.pss_cut (ps_if (pt_cmpR op_gt (pe_c G_law_draw hr (by decide) rfl (pa_cons (pv 0) (pa_cons pe_int pa_nil))) pe_int (nomark _)) (pss_one (ps_set (i := 2) sc_law_part.nd rfl (Or.inl rfl) (pe_c G_law_number hr (by decide) rfl (pa_cons (pv 0) (pa_cons pe_int pa_nil))))) pss_nil)
      (C8.pss_cut (ps_if (pt_cmpR op_eq (pe_c G_law_draw hr (by decide) rfl (pa_cons (pv 0) (pa_cons pe_int pa_nil))) pe_int (nomark _)) (pss_one (ps_set (i := 3) sc_law_part.nd rfl (Or.inl rfl) (pe_c G_law_choose hr (by decide) rfl (pa_cons (pv 0) (pa_cons (pv 1) pa_nil))))) pss_nil)
      (pss_one (ps_ret (pe_lst (pa_cons (pe_c G_law_number hr (by decide) rfl (pa_cons (pv 0) (pa_cons pe_int pa_nil))) (pa_cons (pv 2) (pa_cons (pv 3) pa_nil))))))))), ?_⟩
    have st0 : StA H p := ⟨a, b, hp, ha⟩
    refine ⟨by show 2 ≤ sizeLine; decide, fun t nt => ⟨t, _, rfl, SqT.of upd_same, rfl, _, _, rfl, _, _, rfl, rfl, ?_⟩⟩
    have tp := st0.ne nt
    have s1 := (SameB.refl p H).new (o := .tup [.non, .non]) nt
    have hl1 : ∀ H', SameB p H H' → SqL K H' l (ws.map V.str) := fun H' s => by
      rcases hl with (h | ⟨z, h⟩) | h
      · exact .inl (.inl (s _ _ h lp))
      · exact .inl (.inr ⟨z, s _ _ h lp⟩)
      · exact .inr h
    refine ⟨fun sg H' => ∃ ag : Option Int, sg = [some (.ref p), some (.ref l), some (oV ag), some .non] ∧ aOk ag ∧ StA H' p ∧ SameB p H H', ?_, ?_⟩
    · refine ⟨_, rfl, p, a, b, 3, rfl, by rw [upd_ne tp.symm]; exact hp, ha, by decide, by decide +kernel, fun v a1 b1 v0 v3 ha1 => ⟨_, _, rfl, rfl, _, rfl, ?_⟩⟩
      have s2 := s1.mut (o := .lst [.int a1, .int b1])
      by_cases c : 0 < v
      · refine iteTe (decide_eq_true c) ⟨_, rfl, p, 0, rfl, .inl rfl, ⟨a1, b1, upd_same, ha1⟩, fun g a2 b2 g0 g1 ha2 => ?_⟩
        exact ⟨some g, rfl, (fun i e => by cases e; exact ⟨g0, g1⟩), ⟨a2, b2, upd_same, ha2⟩, s2.mut⟩
      · exact iteFe (decide_eq_false c) ⟨none, rfl, (fun i e => by cases e), ⟨a1, b1, upd_same, ha1⟩, s2⟩
    · rintro sg H2 ⟨ag, rfl, oa, ⟨a2, b2, hp2, ha2⟩, s2⟩
      refine ⟨fun sg H' => ∃ fd : Option Str, sg = [some (.ref p), some (.ref l), some (oV ag), some (sV fd)] ∧ (∀ z, fd = some z → Wd z) ∧ StA H' p ∧ SameB p H H', ?_, ?_⟩
      · refine ⟨_, rfl, p, a2, b2, 2, rfl, hp2, ha2, by decide, by decide +kernel, fun v a3 b3 v0 v3 ha3 => ⟨rfl, _, rfl, ?_⟩⟩
        have s3 := s2.mut (o := .lst [.int a3, .int b3])
        rw [ne_dec]
        by_cases c : v = 0
        · refine iteTe (decide_eq_true c) ⟨_, rfl, _, rfl, p, .ref l, a3, b3, rfl, upd_same, ha3, .inl ⟨l, _, rfl, hl1 _ s3, lp, by rw [List.length_map]; exact w0, by rw [List.length_map]; omega, fun i y a4 b4 hy ha4 => ?_⟩⟩
          rw [List.getElem?_map] at hy
          cases hw2 : ws[i]? with
          | none => rw [hw2] at hy; cases hy
          | some z =>
            rw [hw2] at hy
            cases hy
            exact ⟨some z, rfl, (fun z' e => by cases e; exact hw z (List.mem_of_getElem? hw2)), ⟨a4, b4, upd_same, ha4⟩, s3.mut⟩
        · exact iteFe (decide_eq_false c) ⟨none, rfl, (fun z e => by cases e), ⟨a3, b3, upd_same, ha3⟩, s3⟩
      · rintro sg H3 ⟨fd, rfl, of, st3, s3⟩
        refine ⟨_, rfl, p, 1, rfl, .inr rfl, st3, fun g a4 b4 g0 g1 ha4 => ?_⟩
        refine ⟨_, rfl, _, rfl, by show 3 ≤ sizeLine; decide, fun q nq => ?_⟩
        have st4 : StA (upd H3 p (.lst [.int a4, .int b4])) p := ⟨a4, b4, upd_same, ha4⟩
        have qp := st4.ne nq
        have s4 := s3.mut (o := .lst [.int a4, .int b4])
        exact k ⟨g, ag, fd⟩ q _ ⟨⟨g0, g1⟩, oa, fun z e => (of z e).ok⟩ of (s4.free nq qp) qp upd_same ⟨a4, b4, by rw [upd_ne qp.symm, upd_same], ha4⟩ (s4.new nq)
end

end K11

namespace K11
open PySem PySem.Spec PyProof.Rows L2 Jg
local macro_rules | `(tactic| walk_at "rd1") => `(tactic| (first
  | refine ⟨_, rfl, ?_⟩
  | refine ⟨_, _, rfl, rfl, ?_⟩
  | refine ⟨_, _, rfl, ?_⟩
  | refine ⟨rfl, ?_⟩
  | (refine ⟨show (0 : Int) < _ by omega, ?_⟩)
  | (refine ⟨Or.inl ⟨by omega, by omega⟩, ?_⟩)
  | (refine ⟨Or.inr ⟨by omega, by omega⟩, ?_⟩)
  | (refine ⟨(⟨by decide, by decide, by decide⟩ : CPow _ _), ?_⟩)
  | refine Or.inl ⟨_, rfl, ?_⟩
  | refine Or.inr ⟨_, rfl, ?_⟩
  | fail "rd"))
local macro_rules | `(tactic| walk_at "rd") => `(tactic| repeat' walk_at "rd1")


/-! ### how small data is shown -/
theorem textFrom_le {M : Nat} : ∀ (ts : List Str) (k : Nat) (acc : Str), (∀ t ∈ ts, t.length ≤ M) → (textFrom k acc ts).length ≤ acc.length + ts.length * (M + 2)
  | [], k, acc, _ => by show acc.length ≤ _; omega
  | t :: r, k, acc, h => by
    have ih := textFrom_le r (k + 1) (acc ++ (if k > 0 then ", " else "" : String) ++ t) fun u hu => h u (List.mem_cons_of_mem _ hu)
    have ht := h t List.mem_cons_self
    have e : (acc ++ (if k > 0 then ", " else "" : String) ++ t).length ≤ acc.length + 2 + t.length := by
      rw [Str.length_append, Str.length_append]
      have z : (Str.ofString (if k > 0 then ", " else "" : String)).length ≤ 2 := by split <;> decide
      omega
    show (textFrom (k + 1) (acc ++ (if k > 0 then ", " else "" : String) ++ t) r).length ≤ _
    rw [List.length_cons, Nat.add_mul]
    omega
theorem big_log {i : Int} (h : i.natAbs < 10 ^ 61) : i.natAbs.log2 < 1920 := Nat.lt_of_lt_of_le (PySem.Flt.log2_lt_of (k := 300) (by decide) (Nat.lt_of_lt_of_le h (by decide +kernel))) (by decide)
theorem big_txt {i : Int} (h : i.natAbs < 10 ^ 61) : (PyData.int i).shown.length ≤ 70 := by
  have z := int_text_length_le10 (k := 61) (by decide) h
  show (Str.ofString (toString i)).length ≤ 70
  rw [PySem.ofString_length]
  omega
inductive Sm : V → PyData → Prop
  | non : Sm .non .none
  | int (i : Int) (h : i.natAbs < 10 ^ 61) : Sm (.int i) (.int i)
  | str (z : Str) (h : Wd z) : Sm (.str z) (.str z)
inductive SmAll : List V → List PyData → Prop
  | nil : SmAll [] []
  | cons {v d vs ds} : Sm v d → SmAll vs ds → SmAll (v :: vs) (d :: ds)
theorem Sm.dp {K : PySem.W.Frag} {H : Hp} {v : V} {d : PyData} (h : Sm v d) : Dp K H v d := by
  cases h with
  | non => exact .non
  | int i h => exact .int i
  | str z h => exact .str z
theorem Sm.len {v : V} {d : PyData} (h : Sm v d) : d.shown.length ≤ 90 := by
  cases h with
  | non => decide +kernel
  | int i h => exact Nat.le_trans (big_txt h) (by decide)
  | str z h =>
    have e := StrLaws.reprText_len z fun c hc => Nat.lt_of_le_of_lt (h.1 c hc).2 (by decide)
    have e2 := h.2.2
    show (reprText z).length ≤ 90
    omega
theorem Sm.sh {v : V} {d : PyData} (h : Sm v d) : d.showable = true ∧ d.depth = 0 := by
  cases h with
  | non => exact ⟨by simp [PyData.showable], by simp [PyData.depth]⟩
  | int i h => exact ⟨by simp [PyData.showable, big_log h], by simp [PyData.depth]⟩
  | str z h => exact ⟨by simp [PyData.showable], by simp [PyData.depth]⟩
theorem SmAll.dp {K : PySem.W.Frag} {H : Hp} : ∀ {vs : List V} {ds : List PyData}, SmAll vs ds → DpAll K H vs ds
  | _, _, .nil => .nil
  | _, _, .cons a b => .cons a.dp b.dp
theorem SmAll.sh : ∀ {vs : List V} {ds : List PyData}, SmAll vs ds → PyData.showableAll ds = true ∧ PyData.depthAll ds = 0
  | _, _, .nil => ⟨by simp [PyData.showableAll], by simp [PyData.depthAll]⟩
  | _, _, .cons a b => ⟨by simp [PyData.showableAll, a.sh.1, b.sh.1], by simp [PyData.depthAll, a.sh.2, b.sh.2]⟩
theorem SmAll.all : ∀ {vs : List V} {ds : List PyData}, SmAll vs ds → (∀ t ∈ PyData.shownAll ds, t.length ≤ 90) ∧ (PyData.shownAll ds).length = vs.length
  | _, _, .nil => ⟨(fun t h => by simp [PyData.shownAll] at h), by simp [PyData.shownAll]⟩
  | _, _, .cons a b => ⟨(fun t h => by
      simp only [PyData.shownAll, List.mem_cons] at h
      exact h.elim (fun e => e ▸ a.len) (b.all.1 t)), by simp [PyData.shownAll, b.all.2]⟩
theorem SmAll.shw {K : PySem.W.Frag} {H : Hp} {a : Addr} {vs : List V} {ds : List PyData} (h : SmAll vs ds) (n : vs.length ≤ 6) (hs : SqL K H a vs) : Shw K H (.ref a) (PyData.list ds).shown := by
  refine .dat (.lst hs h.dp) ?_ ?_ ?_
  · simp [PyData.showable, h.sh.1]
  · simp [PyData.depth, h.sh.2]
  · show (textFrom 0 "[" (PyData.shownAll ds) ++ "]").length ≤ sizeLine
    rw [Str.length_append]
    have z := textFrom_le (M := 90) (PyData.shownAll ds) 0 "[" h.all.1
    have z1 : (Str.ofString "[").length = 1 := by decide
    have z2 : (Str.ofString "]").length = 1 := by decide
    rw [h.all.2] at z
    rw [sizeLine_eq]
    have z3 : vs.length * 92 ≤ 6 * 92 := Nat.mul_le_mul_right _ n
    omega
def aD : Option Int → PyData
  | none => .none
  | some i => .int i
def sD : Option Str → PyData
  | none => .none
  | some z => .str z
theorem sm_L {i : Int} (h0 : 0 ≤ i) (h1 : i ≤ L) : i.natAbs < 10 ^ 61 := by
  have hL := L_eq
  have e : (10 : Nat) ^ 61 = 10000000000000000000000000000000000000000000000000000000000000 := by decide +kernel
  rw [e]; omega
theorem sm_g {g : Int} (h : 1 ≤ g ∧ g ≤ L) : Sm (.int g) (.int g) := .int g (sm_L (by omega) h.2)
theorem sm_a {a : Option Int} (h : aOk a) : Sm (oV a) (aD a) := by
  cases a with
  | none => exact .non
  | some i => exact .int i (sm_L (h i rfl).1 (h i rfl).2)
theorem sm_s {s : Option Str} (h : ∀ z, s = some z → Wd z) : Sm (sV s) (sD s) := by
  cases s with
  | none => exact .non
  | some z => exact .str z (h z rfl)
theorem shw_row {K : PySem.W.Frag} {H : Hp} {a : Addr} {r : Kd} (ok : KOk r) (kw : KW r) (h : SqL K H a (rowV r)) : Shw K H (.ref a) (PyData.list [.int r.g, aD r.a, sD r.s]).shown :=
  SmAll.shw (.cons (sm_g ok.g) (.cons (sm_a ok.a) (.cons (sm_s kw) .nil))) (by show 3 ≤ 6; decide) h
theorem same_kat {C : Addr} {H H' : Hp} {p : Addr} {r : Kd} (e : Same H H') (h : KAt C H p r) : KAt C H' p r :=
  let ⟨dx, z⟩ := h
  ⟨dx, e _ _ z⟩
/-! ### what a kind tells -/
def keq (r o : Kd) : Bool := decide (V.int r.g = V.int o.g) && (decide (oV r.a = oV o.a) && decide (sV r.s = sV o.s))
def spPrp (C : Addr) (g : Kd → V) : Sp := fun vs H Q _ => ∃ p r, vs = [.ref p] ∧ KAt C H p r ∧ Q (g r) H
def spKEq (K : PySem.W.Frag) (C : Addr) : Sp := fun vs H Q _ => ∃ p y r, vs = [.ref p, y] ∧ KAt C H p r ∧
  ((∃ q o, y = .ref q ∧ KAt C H q o ∧ Q (.bl (keq r o)) H) ∨ (∃ t, TyX K H y t ∧ PySem.W.kitOne K t (.ref C) = some false ∧ Q (.bl false) H))
def g3 : List V → List V → List V := fun vs zs => vs ++ zs
/-- _law_kind -/
def spMk (K : PySem.W.Frag) (C CI : Addr) : Sp := fun vs H Q E => ∃ l u v s, vs = [.ref l] ∧ SqL K H l [u, v, s] ∧
  ((∃ r : Kd, u = .int r.g ∧ v = oV r.a ∧ s = sV r.s ∧ KOk r ∧ ∀ x H', H x = none → Same H H' → KAt C H' x r → Q (.ref x) H') ∨
   (∃ y, ((y = u ∧ bG K H u) ∨ (y = v ∧ gG u ∧ bA K H v) ∨ (y = s ∧ gG u ∧ gA v ∧ bS K H s)) ∧ ∀ d H', H d = none → H' d = some (.xd [(("value" : Str), y)]) → Same H H' → E (.ref CI) (some d) H'))
def spIs (K : PySem.W.Frag) (C : Addr) : Sp := fun vs H Q _ => ∃ x l r, vs = [.ref x, .ref l] ∧ KAt C H x r ∧ SqL K H l (rowV r) ∧ KOk r ∧ KW r ∧ ∀ H', Same H H' → Q (.bl true) H'
section
variable {P : Program} {w : World} {K : PySem.W.Frag} {mg : Str → Option Value} {base : Heap} {C CI CU : Addr}
abbrev s_Kind_gap : Stmt := inClass (top 15) 1
theorem sc_Kind_gap : FnScope ["self"] ["self"] (defScope s_Kind_gap) := ⟨rfl, rfl, rfl, by decide +kernel, rfl, by decide +kernel, by decide +kernel⟩
theorem ok_gap (D : PrpK K C "gap" "Kind.gap" s_Kind_gap) (T : Txt K mg C) : Prp P w K mg base CX0 1 C "gap" (spPrp C fun r => .int r.g) := by
  refine D.prp sc_Kind_gap (fun _ _ _ _ _ _ us hl => match us, hl with | [_], _ => rfl) (fun vs H Q E h => ?_) fun f cdv A outer s H vs Q E hr h => ?_
  · obtain ⟨p, r, rfl, _⟩ := h; rfl
  · obtain ⟨p, r, rfl, ⟨dx, hp⟩, k⟩ := h
    exact ⟨_, (pss_one (ps_ret (pe_fld (pv 0) rfl))), _, rfl, p, C, dx, _, _, rfl, hp, T.cl, T.ng, get_g _ _ _, k⟩
abbrev s_Kind_age : Stmt := inClass (top 15) 3
theorem sc_Kind_age : FnScope ["self"] ["self"] (defScope s_Kind_age) := ⟨rfl, rfl, rfl, by decide +kernel, rfl, by decide +kernel, by decide +kernel⟩
theorem ok_age (D : PrpK K C "age" "Kind.age" s_Kind_age) (T : Txt K mg C) : Prp P w K mg base CX0 1 C "age" (spPrp C fun r => oV r.a) := by
  refine D.prp sc_Kind_age (fun _ _ _ _ _ _ us hl => match us, hl with | [_], _ => rfl) (fun vs H Q E h => ?_) fun f cdv A outer s H vs Q E hr h => ?_
  · obtain ⟨p, r, rfl, _⟩ := h; rfl
  · obtain ⟨p, r, rfl, ⟨dx, hp⟩, k⟩ := h
    exact ⟨_, (pss_one (ps_ret (pe_fld (pv 0) rfl))), _, rfl, p, C, dx, _, _, rfl, hp, T.cl, T.na, get_a _ _ _, k⟩
abbrev s_Kind_source : Stmt := inClass (top 15) 5
theorem sc_Kind_source : FnScope ["self"] ["self"] (defScope s_Kind_source) := ⟨rfl, rfl, rfl, by decide +kernel, rfl, by decide +kernel, by decide +kernel⟩
theorem ok_source (D : PrpK K C "source" "Kind.source" s_Kind_source) (T : Txt K mg C) : Prp P w K mg base CX0 1 C "source" (spPrp C fun r => sV r.s) := by
  refine D.prp sc_Kind_source (fun _ _ _ _ _ _ us hl => match us, hl with | [_], _ => rfl) (fun vs H Q E h => ?_) fun f cdv A outer s H vs Q E hr h => ?_
  · obtain ⟨p, r, rfl, _⟩ := h; rfl
  · obtain ⟨p, r, rfl, ⟨dx, hp⟩, k⟩ := h
    exact ⟨_, (pss_one (ps_ret (pe_fld (pv 0) rfl))), _, rfl, p, C, dx, _, _, rfl, hp, T.cl, T.ns, get_s _ _ _, k⟩
abbrev s_Kind_eq : Stmt := inClass (top 15) 7
theorem sc_Kind_eq : FnScope ["self", "other"] ["self", "other"] (defScope s_Kind_eq) := ⟨rfl, rfl, rfl, by decide +kernel, rfl, by decide +kernel, by decide +kernel⟩
theorem ok_eq (D : MetK K C "__eq__" "Kind.__eq__" s_Kind_eq) (T : Txt K mg C) : Met P w K mg base CX0 1 C "__eq__" (spKEq K C) := by
  refine D.met sc_Kind_eq (fun _ _ _ _ _ _ us hl => match us, hl with | [_, _], _ => rfl) (fun vs H Q E h => ?_) fun f cdv A outer s H vs Q E hr h => ?_
  · obtain ⟨p, y, r, rfl, _⟩ := h; rfl
  · obtain ⟨p, y, r, rfl, hp0, k⟩ := h
    refine ⟨_, (pss_one (ps_ret (pe_and (pe_callB call_isi (by rfl) T.b_isinstance (by decide +kernel) (pa_cons (pv 1) (pa_cons (pe_glob (v := .ref C) rfl T.cKind rfl) pa_nil))) (pe_and (pe_cmpR op_eq (pe_fld (pv 0) rfl) (pe_fld (pv 1) rfl) (nomark _)) (pe_and (pe_cmpR op_eq (pe_fld (pv 0) rfl) (pe_fld (pv 1) rfl) (nomark _)) (pe_one (pe_cmpR op_eq (pe_fld (pv 0) rfl) (pe_fld (pv 1) rfl) (nomark _)))))))), ?_⟩
    rcases k with ⟨q, o, rfl, hq0, k⟩ | ⟨t, ty, kt, k⟩
    · obtain ⟨dx, hp⟩ := id hp0
      obtain ⟨dy, hq⟩ := id hq0
      refine ⟨_, rfl, .ref q, .ref C, _, _, true, rfl, .own C, T.ty hq0, T.kCC, _, rfl, iteT ?_⟩
      refine ⟨_, rfl, p, C, dx, _, _, rfl, hp, T.cl, T.ng, get_g _ _ _, _, rfl, q, C, dy, _, _, rfl, hq, T.cl, T.ng, get_g _ _ _, rfl, _, rfl, ?_⟩
      unfold keq at k
      have sc1 : ∀ a b : Option Int, scal (oV a) (oV b) = true := fun a b => by cases a <;> cases b <;> rfl
      have sc2 : ∀ a b : Option Str, scal (sV a) (sV b) = true := fun a b => by cases a <;> cases b <;> rfl
      cases e1 : decide (V.int r.g = V.int o.g) with
      | false => rw [e1] at k; exact iteF k
      | true =>
        rw [e1] at k
        refine iteT ⟨_, rfl, p, C, dx, _, _, rfl, hp, T.cl, T.na, get_a _ _ _, _, rfl, q, C, dy, _, _, rfl, hq, T.cl, T.na, get_a _ _ _, sc1 _ _, _, rfl, ?_⟩
        cases e2 : decide (oV r.a = oV o.a) with
        | false => rw [e2] at k; exact iteF k
        | true =>
          rw [e2] at k
          exact iteT ⟨_, rfl, p, C, dx, _, _, rfl, hp, T.cl, T.ns, get_s _ _ _, _, rfl, q, C, dy, _, _, rfl, hq, T.cl, T.ns, get_s _ _ _, sc2 _ _, k⟩
    · exact ⟨_, rfl, y, .ref C, _, _, false, rfl, .own C, ty, kt, _, rfl, iteF k⟩
abbrev s_law_kind : Stmt := top 23
theorem sc_law_kind : FnScope ["row"] ["row"] (defScope s_law_kind) := ⟨rfl, rfl, rfl, by decide +kernel, rfl, by decide +kernel, by decide +kernel⟩
theorem ok_kind (D : DefK K mg "_law_kind" s_law_kind) (T : Txt K mg C) (M_Kind : MakW P w K mg base (L2.CX P w) 5 "Kind" C ["gap", "age", "source"] g3 (spKInit K C CI)) : Cal P w K mg base (L2.CX P w) 7 "_law_kind" (spMk K C CI) := by
  refine D.calX sc_law_kind (fun _ _ _ _ _ _ us hl => match us, hl with | [_], _ => rfl) (fun vs H Q E h => ?_) fun f cdv A outer s H vs Q E hr h => ?_
  · obtain ⟨l, u, v, so, rfl, _⟩ := h; rfl
  · obtain ⟨l, u, v, so, rfl, hl, h⟩ := h
    refine ⟨_, (pss_one (ps_ret (pe_mkKS M_Kind (takes_of rfl rfl rfl rfl) hr (by decide) rfl (pk_cons (pe_ix (r := rIxL K) ix_list (pv 0) pe_int (fun _ _ => rfl)) (pk_cons (pe_ix (r := rIxL K) ix_list (pv 0) pe_int (fun _ _ => rfl)) (pk_cons (pe_ix (r := rIxL K) ix_list (pv 0) pe_int (fun _ _ => rfl)) pk_nil)))))), ?_⟩
    refine ⟨_, rfl, l, _, 0, u, rfl, rfl, hl, atI_nat (j := 0) rfl, _, rfl, l, _, 1, v, rfl, rfl, hl, atI_nat (j := 1) rfl, _, rfl, l, _, 2, so, rfl, rfl, hl, atI_nat (j := 2) rfl, rfl, fun x dx nx ndx nex => ?_⟩
    have s1 : Same H (upd (upd H dx (.own x)) x (.ins C dx [])) := same_new' (same_new ndx) (by rw [upd_ne (Ne.symm nex)]; exact nx)
    refine ⟨x, dx, u, v, so, H, rfl, upd_same, s1, nx, ?_⟩
    rcases h with ⟨r, e1, e2, e3, ok, k⟩ | ⟨y, hy, k⟩
    · exact .inl ⟨r, e1, e2, e3, ok, fun H' ka kp => ⟨rfl, k x H' nx (Same.made nx ndx kp) ka⟩⟩
    · exact .inr ⟨y, hy, k⟩
abbrev s_law_is : Stmt := top 24
theorem sc_law_is : FnScope ["one", "row"] ["one", "row"] (defScope s_law_is) := ⟨rfl, rfl, rfl, by decide +kernel, rfl, by decide +kernel, by decide +kernel⟩
theorem ok_is (D : DefK K mg "_law_is" s_law_is) (T : Txt K mg C) (G_gap : Prp P w K mg base CX0 1 C "gap" (spPrp C fun r => .int r.g)) (G_age : Prp P w K mg base CX0 1 C "age" (spPrp C fun r => oV r.a)) (G_source : Prp P w K mg base CX0 1 C "source" (spPrp C fun r => sV r.s)) : CalG P w K mg base CX0 4 "_law_is" (spIs K C) := by
  refine D.calG sc_law_is (fun _ _ _ _ _ _ us hl => match us, hl with | [_, _], _ => rfl) (fun vs H Q E h => ?_) fun f cdv A outer s H vs Q E g hr h => ?_
  · obtain ⟨x, l, r, rfl, _⟩ := h; rfl
  · obtain ⟨x, l, r, rfl, hx, hl, ok, kw, k⟩ := h
    have hu : (A.deeper (envOfC _ _ _ f cdv)).units + 64 < cLine := hr.units
    obtain ⟨dx, hp⟩ := id hx
    refine ⟨_, (pss_one (ps_ret (pe_cmpR op_eq (pe_callB (call_shw g hu) (by rfl) T.b_repr (by decide +kernel) (pa_cons (pe_lst (pa_cons (pe_p G_gap T.cl hr (by decide) (pv 0)) (pa_cons (pe_p G_age T.cl hr (by decide) (pv 0)) (pa_cons (pe_p G_source T.cl hr (by decide) (pv 0)) pa_nil)))) pa_nil)) (pe_callB (call_shw g hu) (by rfl) T.b_repr (by decide +kernel) (pa_cons (pv 1) pa_nil)) (nomark _)))), ?_⟩
    refine ⟨_, rfl, x, dx, _, rfl, hp, x, r, rfl, hx, _, rfl, x, dx, _, rfl, hp, x, r, rfl, hx, _, rfl, x, dx, _, rfl, hp, x, r, rfl, hx, by show 3 ≤ sizeLine; decide, fun q nq => ?_⟩
    have s1 := same_new (o := .lst (rowV r)) nq
    refine ⟨.ref q, _, rfl, shw_row ok kw (SqL.of upd_same), _, rfl, .ref l, _, rfl, shw_row ok kw (s1.seq hl), rfl, ?_⟩
    exact q_true (decide_eq_true rfl) (k _ s1)
end

end K11

namespace K11
open PySem PySem.Spec PyProof.Rows L2 Jg
local macro_rules | `(tactic| walk_at "rd1") => `(tactic| (first
  | refine ⟨_, rfl, ?_⟩
  | refine ⟨_, _, rfl, rfl, ?_⟩
  | refine ⟨_, _, rfl, ?_⟩
  | refine ⟨rfl, ?_⟩
  | (refine ⟨show (0 : Int) < _ by omega, ?_⟩)
  | (refine ⟨Or.inl ⟨by omega, by omega⟩, ?_⟩)
  | (refine ⟨Or.inr ⟨by omega, by omega⟩, ?_⟩)
  | (refine ⟨(⟨by decide, by decide, by decide⟩ : CPow _ _), ?_⟩)
  | refine Or.inl ⟨_, rfl, ?_⟩
  | refine Or.inr ⟨_, rfl, ?_⟩
  | fail "rd"))
local macro_rules | `(tactic| walk_at "rd") => `(tactic| repeat' walk_at "rd1")


/-! ### the law's try -/
def spRef (K : PySem.W.Frag) (C : Addr) : Sp := fun vs H Q _ => ∃ a o nm y tx, vs = [a, o, nm] ∧ (∀ H', Same H H' → Shw K H' y tx) ∧
  (∀ l H', H l = none → Same H H' → H' l = some (.lst [.str tx, .bl true, .bl false]) → Q (.ref l) H') ∧
  ((o = .non ∧ ∃ l u v s, a = .ref l ∧ SqL K H l [u, v, s] ∧ ((y = u ∧ bG K H u) ∨ (y = v ∧ gG u ∧ bA K H v) ∨ (y = s ∧ gG u ∧ gA v ∧ bS K H s))) ∨
   (∃ x r, o = .ref x ∧ KAt C H x r ∧ ((nm = .str "gap" ∧ y = a ∧ bG K H a) ∨ (nm = .str "age" ∧ y = a ∧ bA K H a) ∨ (y = nm ∧ NmOdd K H nm))))
/-- the classes that the law asks about -/
structure Tst (K : PySem.W.Frag) (mg : Str → Option Value) (CI CU CG CM CE : Addr) : Prop where
  gGap : mg "GapError" = some (.ref CG)
  gM : mg "InvalidMoment" = some (.ref CM)
  gE : mg "UnknownEdition" = some (.ref CE)
  bL : mg "LookupError" = none
  kG : PySem.W.kitOne K (.ref CI) (.ref CG) = some true
  kM : PySem.W.kitOne K (.ref CI) (.ref CM) = some false
  kL : PySem.W.kitOne K (.ref CU) (.type "LookupError") = some true
  kE : PySem.W.kitOne K (.ref CU) (.ref CE) = some false
  tUI : PySem.W.exmOne K (.ref CU) (.ref CI) = some false
section
variable {P : Program} {w : World} {K : PySem.W.Frag} {mg : Str → Option Value} {base : Heap} {C CI CU CG CM CE : Addr} {st st2 : Stmt}
abbrev s_law_refused : Stmt := top 25
theorem sc_law_refused : FnScope ["row", "one", "name", "e"] ["row", "one", "name"] (defScope s_law_refused) := ⟨rfl, rfl, rfl, by decide +kernel, rfl, by decide +kernel, by decide +kernel⟩
theorem ok_refused (D : DefK K mg "_law_refused" s_law_refused) (T : Txt K mg C) (I : ExnQ K mg "InvalidKind" CI "InvalidKind.__init__" st "value") (U : ExnQ K mg "UnknownName" CU "UnknownName.__init__" st2 "name") (S : Tst K mg CI CU CG CM CE)
    (G_law_kind : Cal P w K mg base (L2.CX P w) 7 "_law_kind" (spMk K C CI)) (G_change : Met P w K mg base (L2.CX P w) 5 C "change" (spChange K C CI CU)) : CalG P w K mg base CX0 8 "_law_refused" (spRef K C) := by
  refine D.calG sc_law_refused (fun _ _ _ _ _ _ us hl => match us, hl with | [_, _, _], _ => rfl) (fun vs H Q E h => ?_) fun f cdv A outer s H vs Q E g hr h => ?_
  · obtain ⟨a, o, nm, y, tx, rfl, _⟩ := h; rfl
  · obtain ⟨a, o, nm, y, tx, rfl, sh, q, h⟩ := h
    have hu : (A.deeper (envOfC _ _ _ f cdv)).units + 64 < cLine := hr.units
    have gGap := S.gGap
    have gM := S.gM
    have gE := S.gE
    have bL := S.bL
    have hrep : ∀ (a : Addr) (oe : Obj) (pn : List (Addr × Obj)), CallR ((cxOf CX0 P w K mg base ["row", "one", "name", "e"] "_law_refused" (defScope s_law_refused) f cdv A outer s H E).nox.suite a ((a, oe) :: pn)) (.builtin "repr") (rShw K) := fun a oe pn => call_shw g hu
    refine ⟨_, (pss_cons (ps_try (.named (i := 3) rfl rfl ⟨rfl, by decide, .inl I.mg_⟩ (fun a oe cls d pn hz hf => pss_one (ps_ret (pe_lst (pa_cons (pe_callB (hrep a oe pn) (by rfl) T.b_repr (by decide +kernel) (pa_cons (pe_xf I.xk.xf I.no hz hf (pv 3)) pa_nil)) (pa_cons (pe_callB (call_isX I.xk hz hf) (by rfl) T.b_isinstance (by decide +kernel) (pa_cons (pv 3) (pa_cons (pe_glob (v := .ref CG) rfl gGap rfl) pa_nil))) (pa_cons (pe_callB (call_isX I.xk hz hf) (by rfl) T.b_isinstance (by decide +kernel) (pa_cons (pv 3) (pa_cons (pe_glob (v := .ref CM) rfl gM rfl) pa_nil))) pa_nil)))))) (.named (i := 3) rfl rfl ⟨rfl, by decide, .inl U.mg_⟩ (fun a oe cls d pn hz hf => pss_one (ps_ret (pe_lst (pa_cons (pe_callB (hrep a oe pn) (by rfl) T.b_repr (by decide +kernel) (pa_cons (pe_xf U.xk.xf U.no hz hf (pv 3)) pa_nil)) (pa_cons (pe_callB (call_isX U.xk hz hf) (by rfl) T.b_isinstance (by decide +kernel) (pa_cons (pv 3) (pa_cons (pe_ty (n := "LookupError") (by rfl) bL (by decide +kernel)) pa_nil))) (pa_cons (pe_callB (call_isX U.xk hz hf) (by rfl) T.b_isinstance (by decide +kernel) (pa_cons (pv 3) (pa_cons (pe_glob (v := .ref CE) rfl gE rfl) pa_nil))) pa_nil)))))) .cut)) rfl rfl sc_law_refused.nd takes0 (fun W pn xe tk _ => pss_one (ps_if (pt_cmpR op_isN (pv 1) pe_non (nomark _)) (pss_one (ps_expr (pe_cS G_law_kind tk hr (by decide) rfl (pa_cons (pv 0) pa_nil)))) (pss_one (ps_expr (pe_mS G_change T.cl tk hr (by decide) (pv 1) (pa_cons (pv 2) (pa_cons (pv 0) pa_nil))))))))
      (pss_one (ps_ret pe_non))), ?_⟩
    rcases h with ⟨rfl, l, u, v, so, rfl, hl, hy⟩ | ⟨x, r, rfl, hx, hy⟩
    · refine ⟨_, rfl, rfl, _, rfl, iteTe rfl ?_⟩
      refine ⟨_, rfl, l, u, v, so, rfl, hl, .inr ⟨y, hy, fun d H' nd ed s2 => ⟨true, I.te, fun _ a na => ?_, fun z => nomatch z⟩⟩⟩
      refine ⟨_, rfl, rfl, rfl, d, _, y, rfl, ed, rfl, y, tx, rfl, sh _ s2, ?_⟩
      refine ⟨_, rfl, .ref CG, .ref CG, true, d, _, rfl, rfl, rfl, ed, fun _ z => z, S.kG, ?_⟩
      refine ⟨_, rfl, .ref CM, .ref CM, false, d, _, rfl, rfl, rfl, ed, fun _ z => z, S.kM, ?_⟩
      exact ⟨by show 3 ≤ sizeLine; decide, fun l nl => q l _ (s2.free nl) (same_new' s2 nl) upd_same⟩
    · refine ⟨_, rfl, rfl, _, rfl, iteFe rfl ?_⟩
      obtain ⟨dx, hp⟩ := id hx
      rcases hy with ⟨rfl, rfl, bad⟩ | ⟨rfl, rfl, bad⟩ | ⟨rfl, od⟩
      · refine ⟨_, rfl, x, dx, _, rfl, hp, get_no _ _ _ (by decide +kernel) (by decide +kernel) (by decide +kernel), _, rfl, _, rfl, x, r, .str "gap", y, rfl, hx, .inl ⟨rfl, .inr ⟨bad, fun d H' nd ed s2 => ⟨true, I.te, fun _ a na => ?_, fun z => nomatch z⟩⟩⟩⟩
        refine ⟨_, rfl, rfl, rfl, d, _, y, rfl, ed, rfl, y, tx, rfl, sh _ s2, ?_⟩
        refine ⟨_, rfl, .ref CG, .ref CG, true, d, _, rfl, rfl, rfl, ed, fun _ z => z, S.kG, ?_⟩
        refine ⟨_, rfl, .ref CM, .ref CM, false, d, _, rfl, rfl, rfl, ed, fun _ z => z, S.kM, ?_⟩
        exact ⟨by show 3 ≤ sizeLine; decide, fun l nl => q l _ (s2.free nl) (same_new' s2 nl) upd_same⟩
      · refine ⟨_, rfl, x, dx, _, rfl, hp, get_no _ _ _ (by decide +kernel) (by decide +kernel) (by decide +kernel), _, rfl, _, rfl, x, r, .str "age", y, rfl, hx, .inr (.inl ⟨rfl, .inr ⟨bad, fun d H' nd ed s2 => ⟨true, I.te, fun _ a na => ?_, fun z => nomatch z⟩⟩⟩)⟩
        refine ⟨_, rfl, rfl, rfl, d, _, y, rfl, ed, rfl, y, tx, rfl, sh _ s2, ?_⟩
        refine ⟨_, rfl, .ref CG, .ref CG, true, d, _, rfl, rfl, rfl, ed, fun _ z => z, S.kG, ?_⟩
        refine ⟨_, rfl, .ref CM, .ref CM, false, d, _, rfl, rfl, rfl, ed, fun _ z => z, S.kM, ?_⟩
        exact ⟨by show 3 ≤ sizeLine; decide, fun l nl => q l _ (s2.free nl) (same_new' s2 nl) upd_same⟩
      · refine ⟨_, rfl, x, dx, _, rfl, hp, get_no _ _ _ (by decide +kernel) (by decide +kernel) (by decide +kernel), _, rfl, _, rfl, x, r, y, a, rfl, hx, .inr (.inr ⟨od, fun d H' nd ed s2 => ⟨false, S.tUI, (fun z => nomatch z), fun _ => ⟨true, U.te, fun _ a na => ?_, fun z => nomatch z⟩⟩⟩)⟩
        refine ⟨_, rfl, rfl, rfl, d, _, y, rfl, ed, rfl, y, tx, rfl, sh _ s2, ?_⟩
        refine ⟨_, rfl, .ty "LookupError", .type "LookupError", true, d, _, rfl, rfl, rfl, ed, fun _ z => z, S.kL, ?_⟩
        refine ⟨_, rfl, .ref CE, .ref CE, false, d, _, rfl, rfl, rfl, ed, fun _ z => z, S.kE, ?_⟩
        exact ⟨by show 3 ≤ sizeLine; decide, fun l nl => q l _ (s2.free nl) (same_new' s2 nl) upd_same⟩
end

end K11

namespace K11
open PySem PySem.Spec PyProof.Rows L2 Jg
local macro_rules | `(tactic| walk_at "rd1") => `(tactic| (first
  | refine ⟨_, rfl, ?_⟩
  | refine ⟨_, _, rfl, rfl, ?_⟩
  | refine ⟨_, _, rfl, ?_⟩
  | refine ⟨rfl, ?_⟩
  | (refine ⟨show (0 : Int) < _ by omega, ?_⟩)
  | (refine ⟨Or.inl ⟨by omega, by omega⟩, ?_⟩)
  | (refine ⟨Or.inr ⟨by omega, by omega⟩, ?_⟩)
  | (refine ⟨(⟨by decide, by decide, by decide⟩ : CPow _ _), ?_⟩)
  | refine Or.inl ⟨_, rfl, ?_⟩
  | refine Or.inr ⟨_, rfl, ?_⟩
  | fail "rd"))
local macro_rules | `(tactic| walk_at "rd") => `(tactic| repeat' walk_at "rd1")


/-! ### what is odd -/
def row3 (x : Str) : List V := [.str x, .bl true, .bl false]
def row3D (x : Str) : PyData := .list [.str x, .bool true, .bool false]
theorem dp_row3 {K : PySem.W.Frag} {H : Hp} {a : Addr} {x : Str} (h : SqL K H a (row3 x)) : Dp K H (.ref a) (row3D x) := .lst h (.cons (.str x) (.cons (.bl _) (.cons (.bl _) .nil)))
theorem eqv_row3 (x : Str) : PyData.eqv (row3D x) (row3D x) = true := by simp [PyData.eqv, row3D, PyData.eqvAll]
theorem shaped_row3 {x : Str} (ok : PyData.strOk x = true) : SeqAt.shaped (row3D x) = true := by
  have e1 : (row3D x).canLay0 = true := by simp [row3D, PyData.canLay0, PyData.canLayAll0, ok]
  have e2 : (row3D x).depth ≤ 64 := by first | (simp [row3D, PyData.depth, PyData.depthAll]; done) | (show PyData.depthAll _ + 1 ≤ 64; simp [PyData.depthAll, PyData.depth]; done) | decide
  exact Bool.and_eq_true_iff.mpr ⟨e1, decide_eq_true e2⟩
theorem neq_row3 {K : PySem.W.Frag} {H : Hp} {a b : Addr} {x : Str} {Q : VK} (ok : PyData.strOk x = true) (h1 : SqL K H a (row3 x)) (h2 : SqL K H b (row3 x)) (q : Q (.bl false) H) : rNeD K (.ref a) (.ref b) H Q :=
  ⟨_, _, dp_row3 h1, dp_row3 h2, shaped_row3 ok, shaped_row3 ok, by rw [eqv_row3]; exact q⟩
/-- how it is shown -/
def ShwE (K : PySem.W.Frag) (H : Hp) (y : V) : Prop := ∃ tx, PyData.strOk tx = true ∧ ∀ H', Same H H' → Shw K H' y tx
theorem ShwE.keep {K : PySem.W.Frag} {H H' : Hp} {y : V} (h : ShwE K H y) (s : Same H H') : ShwE K H' y :=
  let ⟨tx, o, z⟩ := h
  ⟨tx, o, fun H2 s2 => z H2 (s.trans s2)⟩
def OddG (K : PySem.W.Frag) (H : Hp) (y : V) : Prop := bG K H y ∧ ShwE K H y
def OddA (K : PySem.W.Frag) (H : Hp) (y : V) : Prop := bA K H y ∧ ShwE K H y
def OddS (K : PySem.W.Frag) (H : Hp) (y : V) : Prop := bS K H y ∧ ShwE K H y
theorem NmOdd.keep {K : PySem.W.Frag} {H H' : Hp} {y : V} (h : NmOdd K H y) (s : Same H H') : NmOdd K H' y :=
  h.elim (fun ⟨d, z, r⟩ => .inl ⟨d, fun H2 s2 => z H2 (s.trans s2), r⟩) fun ⟨a, e, z⟩ => .inr ⟨a, e, s _ _ z⟩
def spOddMade (K : PySem.W.Frag) : Sp := fun vs H Q _ => ∃ (l l1 l2 l3 : Addr) (r : Kd) (y1 y2 y3 : List V), vs = [.ref l, .ref l1, .ref l2, .ref l3] ∧ SqL K H l (rowV r) ∧ KOk r ∧ SqL K H l1 y1 ∧ SqL K H l2 y2 ∧ SqL K H l3 y3 ∧
  (∀ y ∈ y1, OddG K H y) ∧ (∀ y ∈ y2, OddA K H y) ∧ (∀ y ∈ y3, OddS K H y) ∧ ∀ H', Same H H' → Q (.bl true) H'
def spOddSet (K : PySem.W.Frag) (C : Addr) : Sp := fun vs H Q _ => ∃ (x l l1 l2 : Addr) (r : Kd) (y1 y2 : List V), vs = [.ref x, .ref l, .ref l1, .ref l2] ∧ KAt C H x r ∧ SqL K H l (rowV r) ∧ KOk r ∧ KW r ∧ SqL K H l1 y1 ∧ SqL K H l2 y2 ∧
  (∀ y ∈ y1, OddG K H y) ∧ (∀ y ∈ y2, OddA K H y) ∧ ∀ H', Same H H' → Q (.bl true) H'
section
variable {P : Program} {w : World} {K : PySem.W.Frag} {mg : Str → Option Value} {base : Heap} {C : Addr}
abbrev s_law_odd_made : Stmt := top 26
theorem sc_law_odd_made : FnScope ["row", "odd_spans", "odd_ages", "odd_feeders", "odd"] ["row", "odd_spans", "odd_ages", "odd_feeders"] (defScope s_law_odd_made) := ⟨rfl, rfl, rfl, by decide +kernel, rfl, by decide +kernel, by decide +kernel⟩
theorem ok_odd_made (D : DefK K mg "_law_odd_made" s_law_odd_made) (T : Txt K mg C) (G_law_refused : CalG P w K mg base CX0 8 "_law_refused" (spRef K C)) : CalG P w K mg base CX0 9 "_law_odd_made" (spOddMade K) := by
  refine D.calG sc_law_odd_made (fun _ _ _ _ _ _ us hl => match us, hl with | [_, _, _, _], _ => rfl) (fun vs H Q E h => ?_) fun ff cdv A outer s H vs Q E g hr h => ?_
  · obtain ⟨l, l1, l2, l3, r, y1, y2, y3, rfl, _⟩ := h; rfl
  · obtain ⟨l, l1, l2, l3, r, y1, y2, y3, rfl, hl, ok, h1, h2, h3, o1, o2, o3, k⟩ := h
    have hu : (A.deeper (envOfC _ _ _ ff cdv)).units + 64 < cLine := hr.units
    have gg : gG (.int r.g) := ⟨r.g, rfl, ok.g⟩
    have ga : gA (oV r.a) := ⟨r.a, rfl, ok.a⟩
    have c1 : cutV (rowV r) (some 1) none = [oV r.a, sV r.s] := rfl
    have c2 : cutV (rowV r) none (some 2) = [.int r.g, oV r.a] := rfl
    refine ⟨_, (pss_cons (ps_for PassesOwn.never rfl (pi_list (pv 1)) (pg_name (i := 4) sc_law_odd_made.nd rfl (Or.inl rfl)) (pss_cons (ps_if (pt_cmpR (op_neD hu) (pe_cG G_law_refused g hr (by decide) rfl (pa_cons (pe_lst (pa_cons (pv 4) (pa_cons pe_str (pa_cons pe_int pa_nil)))) (pa_cons pe_non (pa_cons pe_str pa_nil)))) (pe_lst (pa_cons (pe_callB (call_shw g hu) (by rfl) T.b_repr (by decide +kernel) (pa_cons (pv 4) pa_nil)) (pa_cons pe_bl (pa_cons pe_bl pa_nil)))) (nomark _)) (pss_one (ps_ret pe_bl)) pss_nil)
      (pss_one (ps_if (pt_cmpR (op_neD hu) (pe_cG G_law_refused g hr (by decide) rfl (pa_cons (pe_op op_cat (pe_lst (pa_cons (pv 4) pa_nil)) (pe_slice sl_list (pv 0) (po_some pe_int) po_none)) (pa_cons pe_non (pa_cons pe_str pa_nil)))) (pe_lst (pa_cons (pe_callB (call_shw g hu) (by rfl) T.b_repr (by decide +kernel) (pa_cons (pv 4) pa_nil)) (pa_cons pe_bl (pa_cons pe_bl pa_nil)))) (nomark _)) (pss_one (ps_ret pe_bl)) pss_nil))))
      (pss_cons (ps_for PassesOwn.never rfl (pi_list (pv 2)) (pg_name (i := 4) sc_law_odd_made.nd rfl (Or.inl rfl)) (pss_one (ps_if (pt_cmpR (op_neD hu) (pe_cG G_law_refused g hr (by decide) rfl (pa_cons (pe_lst (pa_cons (pe_ix (r := rIxL K) ix_list (pv 0) pe_int (fun _ _ => rfl)) (pa_cons (pv 4) (pa_cons pe_str pa_nil)))) (pa_cons pe_non (pa_cons pe_str pa_nil)))) (pe_lst (pa_cons (pe_callB (call_shw g hu) (by rfl) T.b_repr (by decide +kernel) (pa_cons (pv 4) pa_nil)) (pa_cons pe_bl (pa_cons pe_bl pa_nil)))) (nomark _)) (pss_one (ps_ret pe_bl)) pss_nil)))
      (pss_cons (ps_for PassesOwn.never rfl (pi_list (pv 3)) (pg_name (i := 4) sc_law_odd_made.nd rfl (Or.inl rfl)) (pss_one (ps_if (pt_cmpR (op_neD hu) (pe_cG G_law_refused g hr (by decide) rfl (pa_cons (pe_op op_cat (pe_slice sl_list (pv 0) po_none (po_some pe_int)) (pe_lst (pa_cons (pv 4) pa_nil))) (pa_cons pe_non (pa_cons pe_str pa_nil)))) (pe_lst (pa_cons (pe_callB (call_shw g hu) (by rfl) T.b_repr (by decide +kernel) (pa_cons (pv 4) pa_nil)) (pa_cons pe_bl (pa_cons pe_bl pa_nil)))) (nomark _)) (pss_one (ps_ret pe_bl)) pss_nil)))
      (pss_one (ps_ret pe_bl))))), ?_⟩
    refine ⟨_, rfl, l1, rfl, ⟨_, h1⟩, ?_⟩
    refine for_list (K := K) (a := l1) (xs := y1) (fun _ sg H' => ∃ v : Option V, sg = [some (.ref l), some (.ref l1), some (.ref l2), some (.ref l3), v] ∧ Same H H') ⟨_, rfl, .refl H⟩ (fun _ sg H' _ ⟨_, _, z⟩ => z.seq h1) ?_ ?_
    · rintro j y sg H1 hj ⟨v, rfl, s1⟩
      obtain ⟨bad, tx, okt, sh⟩ := o1 y (List.mem_of_getElem? hj)
      -- [odd, 'x', 5]
      refine ⟨_, rfl, by show 3 ≤ sizeLine; decide, fun l0 n0 => ?_⟩
      have s2 := same_new' (o := .lst [y, .str "x", .int 5]) s1 n0
      refine ⟨.ref l0, .non, .str "", y, tx, rfl, fun H2 z => sh H2 (s2.trans z), fun lr H5 nr a5 d5 => ?_, .inl ⟨rfl, l0, y, .str "x", .int 5, rfl, SqL.of upd_same, .inl ⟨rfl, bad.keep s2⟩⟩⟩
      have s5 := s2.trans a5
      refine ⟨_, rfl, y, tx, rfl, sh _ s5, by show 3 ≤ sizeLine; decide, fun m nm => ?_⟩
      have s6 := same_new' (o := .lst (row3 tx)) s5 nm
      refine neq_row3 (x := tx) okt (SqL.of (by have z := same_new (o := .lst (row3 tx)) nm _ _ d5; exact z)) (SqL.of upd_same) ⟨_, rfl, iteF ?_⟩
      -- [odd] + row[1:]
      refine ⟨_, rfl, by show 1 ≤ sizeLine; decide, fun q1 nq1 => ?_⟩
      have s7 := same_new' (o := .lst [y]) s6 nq1
      refine ⟨_, rfl, 1, rfl, l, rowV r, rfl, s7.seq hl, fun q2 nq2 => ?_⟩
      have s8 := same_new' (o := .lst (cutV (rowV r) (some 1) none)) s7 nq2
      have q12 : q1 ≠ q2 := fun z => by rw [← z, upd_same] at nq2; cases nq2
      refine ⟨q1, q2, [y], _, rfl, rfl, by rw [upd_ne q12, upd_same], upd_same, by rw [c1, sizeLine_eq]; exact (by decide : 3 ≤ 16777216), fun q3 nq3 => ?_⟩
      have s9 := same_new' (o := .lst ([y] ++ cutV (rowV r) (some 1) none)) s8 nq3
      refine ⟨.ref q3, .non, .str "", y, tx, rfl, fun H2 z => sh H2 (s9.trans z), fun lr2 H6 nr2 a6 d6 => ?_, .inl ⟨rfl, q3, y, oV r.a, sV r.s, rfl, SqL.of upd_same, .inl ⟨rfl, bad.keep s9⟩⟩⟩
      have s10 := s9.trans a6
      refine ⟨_, rfl, y, tx, rfl, sh _ s10, by show 3 ≤ sizeLine; decide, fun m2 nm2 => ?_⟩
      have s11 := same_new' (o := .lst (row3 tx)) s10 nm2
      refine neq_row3 (x := tx) okt (SqL.of (by have z := same_new (o := .lst (row3 tx)) nm2 _ _ d6; exact z)) (SqL.of upd_same) ⟨_, rfl, iteF ?_⟩
      exact ⟨_, rfl, s11⟩
    · rintro sg H1 ⟨v, rfl, s1⟩
      refine ⟨_, rfl, l2, rfl, ⟨_, s1.seq h2⟩, ?_⟩
      refine for_list (K := K) (a := l2) (xs := y2) (fun _ sg H' => ∃ v : Option V, sg = [some (.ref l), some (.ref l1), some (.ref l2), some (.ref l3), v] ∧ Same H H') ⟨_, rfl, s1⟩ (fun _ sg H' _ ⟨_, _, z⟩ => z.seq h2) ?_ ?_
      · rintro j y sg H2 hj ⟨v, rfl, s2⟩
        obtain ⟨bad, tx, okt, sh⟩ := o2 y (List.mem_of_getElem? hj)
        refine ⟨_, rfl, l, _, 0, .int r.g, rfl, rfl, s2.seq hl, atI_nat (j := 0) rfl, _, rfl, by show 3 ≤ sizeLine; decide, fun l0 n0 => ?_⟩
        have s3 := same_new' (o := .lst [.int r.g, y, .str "A"]) s2 n0
        refine ⟨.ref l0, .non, .str "", y, tx, rfl, fun H2 z => sh H2 (s3.trans z), fun lr H5 nr a5 d5 => ?_, .inl ⟨rfl, l0, .int r.g, y, .str "A", rfl, SqL.of upd_same, .inr (.inl ⟨rfl, gg, bad.1, bad.2.keep s3⟩)⟩⟩
        have s5 := s3.trans a5
        refine ⟨_, rfl, y, tx, rfl, sh _ s5, by show 3 ≤ sizeLine; decide, fun m nm => ?_⟩
        have s6 := same_new' (o := .lst (row3 tx)) s5 nm
        refine neq_row3 (x := tx) okt (SqL.of (by have z := same_new (o := .lst (row3 tx)) nm _ _ d5; exact z)) (SqL.of upd_same) ⟨_, rfl, iteF ?_⟩
        exact ⟨_, rfl, s6⟩
      · rintro sg H2 ⟨v, rfl, s2⟩
        refine ⟨_, rfl, l3, rfl, ⟨_, s2.seq h3⟩, ?_⟩
        refine for_list (K := K) (a := l3) (xs := y3) (fun _ sg H' => ∃ v : Option V, sg = [some (.ref l), some (.ref l1), some (.ref l2), some (.ref l3), v] ∧ Same H H') ⟨_, rfl, s2⟩ (fun _ sg H' _ ⟨_, _, z⟩ => z.seq h3) ?_ ?_
        · rintro j y sg H3 hj ⟨v, rfl, s3⟩
          obtain ⟨bad, tx, okt, sh⟩ := o3 y (List.mem_of_getElem? hj)
          refine ⟨_, rfl, 2, rfl, l, rowV r, rfl, s3.seq hl, fun q1 nq1 => ?_⟩
          have s4 := same_new' (o := .lst (cutV (rowV r) none (some 2))) s3 nq1
          refine ⟨_, rfl, by show 1 ≤ sizeLine; decide, fun q2 nq2 => ?_⟩
          have s5 := same_new' (o := .lst [y]) s4 nq2
          have q12 : q1 ≠ q2 := fun z => by rw [← z, upd_same] at nq2; cases nq2
          refine ⟨q1, q2, _, [y], rfl, rfl, by rw [upd_ne q12, upd_same], upd_same, by rw [c2, sizeLine_eq]; exact (by decide : 3 ≤ 16777216), fun q3 nq3 => ?_⟩
          have s9 := same_new' (o := .lst (cutV (rowV r) none (some 2) ++ [y])) s5 nq3
          refine ⟨.ref q3, .non, .str "", y, tx, rfl, fun H2 z => sh H2 (s9.trans z), fun lr2 H6 nr2 a6 d6 => ?_, .inl ⟨rfl, q3, .int r.g, oV r.a, y, rfl, SqL.of upd_same, .inr (.inr ⟨rfl, gg, ga, bad.1, bad.2.keep s9⟩)⟩⟩
          have s10 := s9.trans a6
          refine ⟨_, rfl, y, tx, rfl, sh _ s10, by show 3 ≤ sizeLine; decide, fun m2 nm2 => ?_⟩
          have s11 := same_new' (o := .lst (row3 tx)) s10 nm2
          refine neq_row3 (x := tx) okt (SqL.of (by have z := same_new (o := .lst (row3 tx)) nm2 _ _ d6; exact z)) (SqL.of upd_same) ⟨_, rfl, iteF ?_⟩
          exact ⟨_, rfl, s11⟩
        · rintro sg H3 ⟨v, rfl, s3⟩
          exact k _ s3
end

end K11

namespace K11
open PySem PySem.Spec PyProof.Rows L2 Jg
local macro_rules | `(tactic| walk_at "rd1") => `(tactic| (first
  | refine ⟨_, rfl, ?_⟩
  | refine ⟨_, _, rfl, rfl, ?_⟩
  | refine ⟨_, _, rfl, ?_⟩
  | refine ⟨rfl, ?_⟩
  | (refine ⟨show (0 : Int) < _ by omega, ?_⟩)
  | (refine ⟨Or.inl ⟨by omega, by omega⟩, ?_⟩)
  | (refine ⟨Or.inr ⟨by omega, by omega⟩, ?_⟩)
  | (refine ⟨(⟨by decide, by decide, by decide⟩ : CPow _ _), ?_⟩)
  | refine Or.inl ⟨_, rfl, ?_⟩
  | refine Or.inr ⟨_, rfl, ?_⟩
  | fail "rd"))
local macro_rules | `(tactic| walk_at "rd") => `(tactic| repeat' walk_at "rd1")


/-! ### names that are none -/
theorem nm_str {K : PySem.W.Frag} {H : Hp} (x : Str) (o1 : PyData.strOk x = true) (n1 : PyData.eqv (.str x) (.str "gap") = false) (n2 : PyData.eqv (.str x) (.str "age") = false) : NmOdd K H (.str x) := .inl ⟨.str x, (fun _ _ => .str x), shaped_str o1, n1, n2⟩
def NameOk (K : PySem.W.Frag) (H : Hp) (y : V) : Prop := NmOdd K H y ∧ ShwE K H y
theorem NameOk.keep {K : PySem.W.Frag} {H H' : Hp} {y : V} (h : NameOk K H y) (s : Same H H') : NameOk K H' y := ⟨h.1.keep s, h.2.keep s⟩
theorem shwE_str {K : PySem.W.Frag} {H : Hp} (x : Str) (h : (reprText x).length ≤ sizeLine) (o : PyData.strOk (reprText x) = true) : ShwE K H (.str x) := ⟨_, o, fun _ _ => .str x h⟩
theorem shp_lst1 : SeqAt.shaped (.list [.str "gap"]) = true := by
  have e1 : PyData.strOk "gap" = true := by decide +kernel
  have e2 : (PyData.list [.str "gap"]).canLay0 = true := by simp [PyData.canLay0, PyData.canLayAll0, e1]
  have e3 : (PyData.list [.str "gap"]).depth ≤ 64 := by first | (simp [PyData.depth, PyData.depthAll]; done) | decide
  exact Bool.and_eq_true_iff.mpr ⟨e2, decide_eq_true e3⟩
theorem shp_tup1 : SeqAt.shaped (.tuple [.str "age"]) = true := by
  have e1 : PyData.strOk "age" = true := by decide +kernel
  have e2 : (PyData.tuple [.str "age"]).canLay0 = true := by simp [PyData.canLay0, PyData.canLayAll0, e1]
  have e3 : (PyData.tuple [.str "age"]).depth ≤ 64 := by first | (simp [PyData.depth, PyData.depthAll]; done) | decide
  exact Bool.and_eq_true_iff.mpr ⟨e2, decide_eq_true e3⟩
section
variable {P : Program} {w : World} {K : PySem.W.Frag} {mg : Str → Option Value} {base : Heap} {C : Addr}
abbrev s_law_odd_set : Stmt := top 27
theorem sc_law_odd_set : FnScope ["one", "row", "odd_spans", "odd_ages", "odd", "name", "odds"] ["one", "row", "odd_spans", "odd_ages"] (defScope s_law_odd_set) := ⟨rfl, rfl, rfl, by decide +kernel, rfl, by decide +kernel, by decide +kernel⟩
theorem ok_odd_set (D : DefK K mg "_law_odd_set" s_law_odd_set) (T : Txt K mg C) (G_law_refused : CalG P w K mg base CX0 8 "_law_refused" (spRef K C)) (G_law_is : CalG P w K mg base CX0 4 "_law_is" (spIs K C)) : CalG P w K mg base CX0 9 "_law_odd_set" (spOddSet K C) := by
  refine D.calG sc_law_odd_set (fun _ _ _ _ _ _ us hl => match us, hl with | [_, _, _, _], _ => rfl) (fun vs H Q E h => ?_) fun ff cdv A outer s H vs Q E g hr h => ?_
  · obtain ⟨x, l, l1, l2, r, y1, y2, rfl, _⟩ := h; rfl
  · obtain ⟨x, l, l1, l2, r, y1, y2, rfl, hx, hl, ok, kw, h1, h2, o1, o2, k⟩ := h
    have hu : (A.deeper (envOfC _ _ _ ff cdv)).units + 64 < cLine := hr.units
    refine ⟨_, (pss_cons (ps_for PassesOwn.never rfl (pi_list (pe_lst (pa_cons (pe_tup (pa_cons pe_str (pa_cons (pv 2) pa_nil))) (pa_cons (pe_tup (pa_cons pe_str (pa_cons (pv 3) pa_nil))) pa_nil)))) (pg_tup rfl (pgs_cons (pg_name (i := 5) sc_law_odd_set.nd rfl (Or.inl rfl)) (pgs_cons (pg_name (i := 6) sc_law_odd_set.nd rfl (Or.inl rfl)) pgs_nil))) (pss_one (ps_for PassesOwn.never rfl (pi_list (pv 6)) (pg_name (i := 4) sc_law_odd_set.nd rfl (Or.inl rfl)) (pss_one (ps_if (PW.pt (pw_or (pt_cmpR (op_neD hu) (pe_cG G_law_refused g hr (by decide) rfl (pa_cons (pv 4) (pa_cons (pv 0) (pa_cons (pv 5) pa_nil)))) (pe_lst (pa_cons (pe_callB (call_shw g hu) (by rfl) T.b_repr (by decide +kernel) (pa_cons (pv 4) pa_nil)) (pa_cons pe_bl (pa_cons pe_bl pa_nil)))) (nomark _)) (pw_or1 (pt_not (pt_val (pe_cG G_law_is g hr (by decide) rfl (pa_cons (pv 0) (pa_cons (pv 1) pa_nil)))))))) (pss_one (ps_ret pe_bl)) pss_nil)))))
      (pss_cons (ps_for PassesOwn.never rfl (pi_list (pe_lst (pa_cons pe_str (pa_cons pe_str (pa_cons pe_str (pa_cons pe_non (pa_cons pe_int (pa_cons pe_bl (pa_cons (pe_lst (pa_cons pe_str pa_nil)) (pa_cons (pe_tup (pa_cons pe_str pa_nil)) (pa_cons pe_dnewK pa_nil))))))))))) (pg_name (i := 4) sc_law_odd_set.nd rfl (Or.inl rfl)) (pss_one (ps_if (PW.pt (pw_or (pt_cmpR (op_neD hu) (pe_cG G_law_refused g hr (by decide) rfl (pa_cons pe_int (pa_cons (pv 0) (pa_cons (pv 4) pa_nil)))) (pe_lst (pa_cons (pe_callB (call_shw g hu) (by rfl) T.b_repr (by decide +kernel) (pa_cons (pv 4) pa_nil)) (pa_cons pe_bl (pa_cons pe_bl pa_nil)))) (nomark _)) (pw_or1 (pt_not (pt_val (pe_cG G_law_is g hr (by decide) rfl (pa_cons (pv 0) (pa_cons (pv 1) pa_nil)))))))) (pss_one (ps_ret pe_bl)) pss_nil)))
      (pss_one (ps_ret pe_bl)))), ?_⟩
    refine ⟨_, rfl, by show 2 ≤ sizeLine; decide, fun t1 nt1 => ?_⟩
    have u1 := same_new (o := .tup [.str "gap", .ref l1]) nt1
    refine ⟨_, rfl, by show 2 ≤ sizeLine; decide, fun t2 nt2 => ?_⟩
    have u2 := same_new' (o := .tup [.str "age", .ref l2]) u1 nt2
    refine ⟨by show 2 ≤ sizeLine; decide, fun lo nlo => ?_⟩
    have u3 := same_new' (o := .lst [.ref t1, .ref t2]) u2 nlo
    have n21 : t2 ≠ t1 := fun z => by rw [z, upd_same] at nt2; cases nt2
    have nl1 : lo ≠ t1 := fun z => by rw [z, upd_ne n21.symm, upd_same] at nlo; cases nlo
    have nl2 : lo ≠ t2 := fun z => by rw [z, upd_same] at nlo; cases nlo
    revert u3
    generalize hHe : upd (upd (upd H t1 (.tup [.str "gap", .ref l1])) t2 (.tup [.str "age", .ref l2])) lo (.lst [.ref t1, .ref t2]) = He
    intro u3
    have e1 : He t1 = some (.tup [.str "gap", .ref l1]) := by rw [← hHe, upd_ne nl1.symm, upd_ne n21.symm, upd_same]
    have e2 : He t2 = some (.tup [.str "age", .ref l2]) := by rw [← hHe, upd_ne nl2.symm, upd_same]
    have el : He lo = some (.lst [.ref t1, .ref t2]) := by rw [← hHe, upd_same]
    refine ⟨lo, rfl, ⟨_, SqL.of el⟩, ?_⟩
    refine for_list (K := K) (a := lo) (xs := [.ref t1, .ref t2]) (fun _ sg H' => ∃ v4 v5 v6 : Option V, sg = [some (.ref x), some (.ref l), some (.ref l1), some (.ref l2), v4, v5, v6] ∧ Same He H') ⟨_, _, _, rfl, .refl _⟩ (fun _ sg H' _ ⟨_, _, _, _, z⟩ => SqL.of (z _ _ el)) ?_ ?_
    · rintro j y sg H1 hj ⟨v4, v5, v6, rfl, s1⟩
      have pk : ∃ (t ls : Addr) (nm : Str) (ys : List V), y = .ref t ∧ He t = some (.tup [.str nm, .ref ls]) ∧ SqL K H ls ys ∧ ∀ z ∈ ys, ShwE K H z ∧ ((nm = "gap" ∧ bG K H z) ∨ (nm = "age" ∧ bA K H z)) := by
        match j, hj with
        | 0, hj => cases hj; exact ⟨t1, l1, "gap", y1, rfl, e1, h1, fun z hz => ⟨(o1 z hz).2, .inl ⟨rfl, (o1 z hz).1⟩⟩⟩
        | 1, hj => cases hj; exact ⟨t2, l2, "age", y2, rfl, e2, h2, fun z hz => ⟨(o2 z hz).2, .inr ⟨rfl, (o2 z hz).1⟩⟩⟩
        | j + 2, hj => cases hj
      obtain ⟨t, ls, nm, ys, rfl, et, hls, hys⟩ := pk
      refine ⟨t, _, rfl, SqT.of (s1 _ _ et), rfl, _, _, rfl, _, _, rfl, rfl, ?_⟩
      have s1' := u3.trans s1
      refine ⟨_, rfl, ls, rfl, ⟨_, s1'.seq hls⟩, ?_⟩
      refine for_list (K := K) (a := ls) (xs := ys) (fun _ sg H' => ∃ v4 : Option V, sg = [some (.ref x), some (.ref l), some (.ref l1), some (.ref l2), v4, some (.str nm), some (.ref ls)] ∧ Same He H') ⟨_, rfl, s1⟩ (fun _ sg H' _ ⟨_, _, z⟩ => (u3.trans z).seq hls) ?_ ?_
      · rintro j2 z sg H2 hj2 ⟨v4, rfl, s2⟩
        have s2' := u3.trans s2
        obtain ⟨⟨tx, okt, sh⟩, hb⟩ := hys z (List.mem_of_getElem? hj2)
        refine ⟨_, rfl, _, rfl, _, rfl, z, .ref x, .str nm, z, tx, rfl, fun H3 q => sh H3 (s2'.trans q), fun lr H5 nr a5 d5 => ?_, .inr ⟨x, r, rfl, same_kat s2' hx, ?_⟩⟩
        · have s5 := s2'.trans a5
          refine ⟨_, rfl, z, tx, rfl, sh _ s5, by show 3 ≤ sizeLine; decide, fun m nm => ?_⟩
          have s6 := same_new' (o := .lst (row3 tx)) s5 nm
          have s6' := same_new' (o := .lst (row3 tx)) (s2.trans a5) nm
          refine neq_row3 (x := tx) okt (SqL.of (by have z := same_new (o := .lst (row3 tx)) nm _ _ d5; exact z)) (SqL.of upd_same) ⟨_, rfl, iteF ?_⟩
          refine ⟨_, rfl, _, rfl, x, l, r, rfl, same_kat s6 hx, s6.seq hl, ok, kw, fun H7 s7 => ⟨_, rfl, iteF ⟨_, rfl, s6'.trans s7⟩⟩⟩
        · rcases hb with ⟨e, b⟩ | ⟨e, b⟩
          · exact .inl ⟨by rw [e], rfl, BadR.keep b s2'⟩
          · exact .inr (.inl ⟨by rw [e], rfl, b.1, b.2.keep s2'⟩)
      · rintro sg H2 ⟨v4, rfl, s2⟩
        exact ⟨_, _, _, rfl, s2⟩
    · rintro sg H1 ⟨v4, v5, v6, rfl, s1⟩
      have s1' := u3.trans s1
      refine ⟨by show 1 ≤ sizeLine; decide, fun p1 np1 => ?_⟩
      have w1 := same_new' (o := .lst [.str "gap"]) s1' np1
      refine ⟨by show 1 ≤ sizeLine; decide, fun p2 np2 => ?_⟩
      have w2 := same_new' (o := .tup [.str "age"]) w1 np2
      intro p3 np3
      have w3 := same_new' (o := .dK []) w2 np3
      refine ⟨by show 9 ≤ sizeLine; decide, fun lo2 nlo2 => ?_⟩
      have w4 := same_new' (o := .lst [.str "source", .str "Gap", .str "", .non, .int 5, .bl true, .ref p1, .ref p2, .ref p3]) w3 nlo2
      have m21 : p2 ≠ p1 := fun z => by rw [z, upd_same] at np2; cases np2
      have m31 : p3 ≠ p1 := fun z => by rw [z, upd_ne m21.symm, upd_same] at np3; cases np3
      have m32 : p3 ≠ p2 := fun z => by rw [z, upd_same] at np3; cases np3
      have ml1 : lo2 ≠ p1 := fun z => by rw [z, upd_ne m31.symm, upd_ne m21.symm, upd_same] at nlo2; cases nlo2
      have ml2 : lo2 ≠ p2 := fun z => by rw [z, upd_ne m32.symm, upd_same] at nlo2; cases nlo2
      have ml3 : lo2 ≠ p3 := fun z => by rw [z, upd_same] at nlo2; cases nlo2
      revert w4
      generalize hHf : upd (upd (upd (upd H1 p1 (.lst [.str "gap"])) p2 (.tup [.str "age"])) p3 (.dK [])) lo2 (.lst [.str "source", .str "Gap", .str "", .non, .int 5, .bl true, .ref p1, .ref p2, .ref p3]) = Hf
      intro w4
      have f1 : Hf p1 = some (.lst [.str "gap"]) := by rw [← hHf, upd_ne ml1.symm, upd_ne m31.symm, upd_ne m21.symm, upd_same]
      have f2 : Hf p2 = some (.tup [.str "age"]) := by rw [← hHf, upd_ne ml2.symm, upd_ne m32.symm, upd_same]
      have f3 : Hf p3 = some (.dK []) := by rw [← hHf, upd_ne ml3.symm, upd_same]
      have fl : Hf lo2 = some (.lst [.str "source", .str "Gap", .str "", .non, .int 5, .bl true, .ref p1, .ref p2, .ref p3]) := by rw [← hHf, upd_same]
      refine ⟨lo2, rfl, ⟨_, SqL.of fl⟩, ?_⟩
      refine for_list (K := K) (a := lo2) (xs := [.str "source", .str "Gap", .str "", .non, .int 5, .bl true, .ref p1, .ref p2, .ref p3]) (fun _ sg H' => ∃ v4 : Option V, sg = [some (.ref x), some (.ref l), some (.ref l1), some (.ref l2), v4, v5, v6] ∧ Same Hf H') ⟨_, rfl, .refl _⟩ (fun _ sg H' _ ⟨_, _, z⟩ => SqL.of (z _ _ fl)) ?_ ?_
      · rintro j2 z sg H2 hj2 ⟨v4, rfl, s2⟩
        have s2' := w4.trans s2
        have nk : NameOk K Hf z := by
          match j2, hj2 with
          | 0, hj => cases hj; exact ⟨nm_str _ (by decide +kernel) (by simp [PyData.eqv]; decide) (by simp [PyData.eqv]; decide), shwE_str _ (by decide +kernel) (by decide +kernel)⟩
          | 1, hj => cases hj; exact ⟨nm_str _ (by decide +kernel) (by simp [PyData.eqv]; decide) (by simp [PyData.eqv]; decide), shwE_str _ (by decide +kernel) (by decide +kernel)⟩
          | 2, hj => cases hj; exact ⟨nm_str _ (by decide +kernel) (by simp [PyData.eqv]; decide) (by simp [PyData.eqv]; decide), shwE_str _ (by decide +kernel) (by decide +kernel)⟩
          | 3, hj => cases hj; exact ⟨.inl ⟨.none, (fun _ _ => .non), by decide +kernel, by simp [PyData.eqv], by simp [PyData.eqv]⟩, _, (by decide +kernel), fun _ _ => .non⟩
          | 4, hj => cases hj; exact ⟨.inl ⟨.int 5, (fun _ _ => .int 5), by decide +kernel, by simp [PyData.eqv], by simp [PyData.eqv]⟩, _, (by decide +kernel), fun _ _ => .int 5 (by decide +kernel)⟩
          | 5, hj => cases hj; exact ⟨.inl ⟨.bool true, (fun _ _ => .bl true), by decide +kernel, by simp [PyData.eqv], by simp [PyData.eqv]⟩, _, (by decide +kernel), fun _ _ => .bl true⟩
          | 6, hj => cases hj; exact ⟨.inl ⟨.list [.str "gap"], (fun H' s => .lst (SqL.of (s _ _ f1)) (.cons (.str _) .nil)), shp_lst1, by simp [PyData.eqv], by simp [PyData.eqv]⟩, _, (by decide +kernel), fun H' s => .dat (.lst (SqL.of (s _ _ f1)) (.cons (.str _) .nil)) (by decide +kernel) (by decide +kernel) (by decide +kernel)⟩
          | 7, hj => cases hj; exact ⟨.inl ⟨.tuple [.str "age"], (fun H' s => .tup (SqT.of (s _ _ f2)) (.cons (.str _) .nil)), shp_tup1, by simp [PyData.eqv], by simp [PyData.eqv]⟩, _, (by decide +kernel), fun H' s => .dat (.tup (SqT.of (s _ _ f2)) (.cons (.str _) .nil)) (by decide +kernel) (by decide +kernel) (by decide +kernel)⟩
          | 8, hj => cases hj; exact ⟨.inr ⟨_, rfl, f3⟩, _, (by decide +kernel), fun H' s => .dnew (s _ _ f3)⟩
          | j + 9, hj => cases hj
        obtain ⟨nmo, tx, okt, sh⟩ := nk
        refine ⟨_, rfl, _, rfl, .int 1, .ref x, z, z, tx, rfl, fun H3 q => sh H3 (s2.trans q), fun lr H5 nr a5 d5 => ?_, .inr ⟨x, r, rfl, same_kat s2' hx, .inr (.inr ⟨rfl, nmo.keep s2⟩)⟩⟩
        have s5 := s2.trans a5
        refine ⟨_, rfl, z, tx, rfl, sh _ s5, by show 3 ≤ sizeLine; decide, fun m nm => ?_⟩
        have s6 := same_new' (o := .lst (row3 tx)) s5 nm
        have s6' := w4.trans s6
        refine neq_row3 (x := tx) okt (SqL.of (by have z := same_new (o := .lst (row3 tx)) nm _ _ d5; exact z)) (SqL.of upd_same) ⟨_, rfl, iteF ?_⟩
        refine ⟨_, rfl, _, rfl, x, l, r, rfl, same_kat s6' hx, s6'.seq hl, ok, kw, fun H7 s7 => ⟨_, rfl, iteF ⟨_, rfl, s6.trans s7⟩⟩⟩
      · rintro sg H2 ⟨v4, rfl, s2⟩
        exact k _ (w4.trans s2)
end

end K11

namespace K11
open PySem PySem.Spec PyProof.Rows L2 Jg
local macro_rules | `(tactic| walk_at "rd1") => `(tactic| (first
  | refine ⟨_, rfl, ?_⟩
  | refine ⟨_, _, rfl, rfl, ?_⟩
  | refine ⟨_, _, rfl, ?_⟩
  | refine ⟨rfl, ?_⟩
  | (refine ⟨show (0 : Int) < _ by omega, ?_⟩)
  | (refine ⟨Or.inl ⟨by omega, by omega⟩, ?_⟩)
  | (refine ⟨Or.inr ⟨by omega, by omega⟩, ?_⟩)
  | (refine ⟨(⟨by decide, by decide, by decide⟩ : CPow _ _), ?_⟩)
  | refine Or.inl ⟨_, rfl, ?_⟩
  | refine Or.inr ⟨_, rfl, ?_⟩
  | fail "rd"))
local macro_rules | `(tactic| walk_at "rd") => `(tactic| repeat' walk_at "rd1")


/-! ### what changes -/
/-- all stays, but what stands at x and y -/
def S2 (x y : Addr) (H H' : Hp) : Prop := ∀ q o, H q = some o → q ≠ x → q ≠ y → H' q = some o
theorem S2.of {x y : Addr} {H H' : Hp} (s : Same H H') : S2 x y H H' := fun q o e _ _ => s q o e
theorem S2.trans {x y : Addr} {H H1 H2 : Hp} (a : S2 x y H H1) (b : S2 x y H1 H2) : S2 x y H H2 := fun q o e n m => b q o (a q o e n m) n m
theorem S2.left {x y : Addr} {H H' : Hp} (s : ∀ b o, H b = some o → b ≠ x → H' b = some o) : S2 x y H H' := fun q o e n _ => s q o e n
theorem S2.right {x y : Addr} {H H' : Hp} (s : ∀ b o, H b = some o → b ≠ y → H' b = some o) : S2 x y H H' := fun q o e _ m => s q o e m
theorem S2.seq {K : PySem.W.Frag} {C x y : Addr} {H H' : Hp} {l : Addr} {r o : Kd} {xs : List V} (s : S2 x y H H') (kx : KAt C H x r) (ky : KAt C H y o) (h : SqL K H l xs) : SqL K H' l xs := by
  obtain ⟨dx, ex⟩ := kx
  obtain ⟨dy, ey⟩ := ky
  rcases h with (h | ⟨z, h⟩) | h
  · refine .inl (.inl (s _ _ h (fun e => ?_) fun e => ?_))
    · rw [e, ex] at h; cases h
    · rw [e, ey] at h; cases h
  · refine .inl (.inr ⟨z, s _ _ h (fun e => ?_) fun e => ?_⟩)
    · rw [e, ex] at h; cases h
    · rw [e, ey] at h; cases h
  · exact .inr h
theorem kat_left {C x y : Addr} {H H' : Hp} {r : Kd} (s : ∀ b o, H b = some o → b ≠ x → H' b = some o) (n : y ≠ x) (h : KAt C H y r) : KAt C H' y r :=
  let ⟨dx, z⟩ := h
  ⟨dx, s _ _ z n⟩
theorem keq_self (r : Kd) : keq r r = true := by
  unfold keq
  rw [decide_eq_true rfl, decide_eq_true rfl, decide_eq_true rfl]; rfl
theorem eqv_int (a b : Int) : PyData.eqv (.int a) (.int b) = decide (V.int a = V.int b) := by
  rw [ne_dec]
  by_cases c : a = b
  · subst c; simp [PyData.eqv]
  · simp [PyData.eqv, c]
theorem eqv_a (a b : Option Int) : PyData.eqv (aD a) (aD b) = decide (oV a = oV b) := by
  cases a with
  | none =>
    cases b with
    | none => simp [PyData.eqv, aD, oV]
    | some j => simp [PyData.eqv, aD, oV]
  | some i =>
    cases b with
    | none => simp [PyData.eqv, aD, oV]
    | some j =>
      show PyData.eqv (.int i) (.int j) = decide (V.int i = V.int j)
      exact eqv_int i j
theorem eqv_two (g1 g2 : Int) (a1 a2 : Option Int) : PyData.eqv (.list [.int g1, aD a1]) (.list [.int g2, aD a2]) = (decide (V.int g1 = V.int g2) && decide (oV a1 = oV a2)) := by
  rw [← eqv_int, ← eqv_a]
  simp [PyData.eqv, PyData.eqvAll]
theorem shp_two (g : Int) (a : Option Int) : SeqAt.shaped (.list [.int g, aD a]) = true := by
  have e2 : (PyData.list [.int g, aD a]).canLay0 = true := by cases a <;> simp [PyData.canLay0, PyData.canLayAll0, aD]
  have e3 : (PyData.list [.int g, aD a]).depth ≤ 64 := by cases a <;> first | (simp [PyData.depth, PyData.depthAll, aD]; done) | (show PyData.depthAll _ + 1 ≤ 64; simp [PyData.depthAll, PyData.depth, aD]; done)
  exact Bool.and_eq_true_iff.mpr ⟨e2, decide_eq_true e3⟩
theorem dp_a {K : PySem.W.Frag} {H : Hp} (a : Option Int) : Dp K H (oV a) (aD a) := by
  cases a with
  | none => exact .non
  | some i => exact .int i
theorem shw_int {K : PySem.W.Frag} {H : Hp} {g : Int} (h : 1 ≤ g ∧ g ≤ L) : Shw K H (.int g) (toString g) := .int g (big_log (sm_L (by omega) h.2))
theorem shw_a {K : PySem.W.Frag} {H : Hp} {a : Option Int} (h : aOk a) : ∃ tx, Shw K H (oV a) tx ∧ ∀ H', Shw K H' (oV a) tx := by
  cases a with
  | none => exact ⟨_, .non, fun _ => .non⟩
  | some i => exact ⟨_, .int i (big_log (sm_L (h i rfl).1 (h i rfl).2)), fun _ => .int i (big_log (sm_L (h i rfl).1 (h i rfl).2))⟩
def spChanged (K : PySem.W.Frag) (C : Addr) : Sp := fun vs H Q _ => ∃ (x l y m : Addr) (r q : Kd), vs = [.ref x, .ref l, .ref y, .ref m] ∧ KAt C H x r ∧ KAt C H y r ∧ y ≠ x ∧ SqL K H l (rowV r) ∧ SqL K H m (rowV q) ∧ KOk r ∧ KW r ∧ KOk q ∧ KW q ∧ ∀ H', S2 x y H H' → Q (.bl true) H'
section
variable {P : Program} {w : World} {K : PySem.W.Frag} {mg : Str → Option Value} {base : Heap} {C CI CU : Addr}
abbrev s_law_changed : Stmt := top 28
theorem sc_law_changed : FnScope ["one", "row", "other", "later", "told"] ["one", "row", "other", "later"] (defScope s_law_changed) := ⟨rfl, rfl, rfl, by decide +kernel, rfl, by decide +kernel, by decide +kernel⟩
theorem ok_changed (D : DefK K mg "_law_changed" s_law_changed) (T : Txt K mg C) (G_change : Met P w K mg base (L2.CX P w) 5 C "change" (spChange K C CI CU)) (G_law_is : CalG P w K mg base CX0 4 "_law_is" (spIs K C)) (G_eq : Met P w K mg base CX0 1 C "__eq__" (spKEq K C)) : CalG P w K mg base CX0 9 "_law_changed" (spChanged K C) := by
  refine D.calG sc_law_changed (fun _ _ _ _ _ _ us hl => match us, hl with | [_, _, _, _], _ => rfl) (fun vs H Q E h => ?_) fun ff cdv A outer s H vs Q E g hr h => ?_
  · obtain ⟨x, l, y, m, r, q, rfl, _⟩ := h; rfl
  · obtain ⟨x, l, y, m, r, q, rfl, kx, ky, yx, hl, hm, okr, kwr, okq, kwq, k⟩ := h
    have hu : (A.deeper (envOfC _ _ _ ff cdv)).units + 64 < cLine := hr.units
    have c1 : cutV (rowV r) (some 1) none = [oV r.a, sV r.s] := rfl
    have c2 : cutV (rowV q) none (some 2) = [.int q.g, oV q.a] := rfl
    have c3 : cutV (rowV r) none (some 2) = [.int r.g, oV r.a] := rfl
    have c4 : cutV (rowV r) (some 2) none = [sV r.s] := rfl
    have le3 : 3 ≤ sizeLine := by decide
    refine ⟨_, (pss_cons (ps_if (PW.pt (pw_or (pt_cmpR op_ne (pe_callB (call_shw g hu) (by rfl) T.b_repr (by decide +kernel) (pa_cons (pe_mS G_change T.cl takes0 hr (by decide) (pv 0) (pa_cons pe_str (pa_cons (pe_ix (r := rIxL K) ix_list (pv 3) pe_int (fun _ _ => rfl)) pa_nil))) pa_nil)) (pe_callB (call_shw g hu) (by rfl) T.b_repr (by decide +kernel) (pa_cons (pe_ix (r := rIxL K) ix_list (pv 1) pe_int (fun _ _ => rfl)) pa_nil)) (nomark _)) (pw_or1 (pt_not (pt_val (pe_cG G_law_is g hr (by decide) rfl (pa_cons (pv 0) (pa_cons (pe_op op_cat (pe_lst (pa_cons (pe_ix (r := rIxL K) ix_list (pv 3) pe_int (fun _ _ => rfl)) pa_nil)) (pe_slice sl_list (pv 1) (po_some pe_int) po_none)) pa_nil)))))))) (pss_one (ps_ret pe_bl)) pss_nil)
      (pss_cons (ps_if (PW.pt (pw_or (pt_not (pt_val (pe_cG G_law_is g hr (by decide) rfl (pa_cons (pv 2) (pa_cons (pv 1) pa_nil))))) (pw_or (pt_cmpR op_ne (pe_cmpR (op_c G_eq hr (by decide)) (pv 0) (pv 2) (nomark _)) (pe_cmpR op_eq (pe_ix (r := rIxL K) ix_list (pv 3) pe_int (fun _ _ => rfl)) (pe_ix (r := rIxL K) ix_list (pv 1) pe_int (fun _ _ => rfl)) (nomark _)) (nomark _)) (pw_or1 (pt_cmpR op_ne (pe_cmpR (op_ne_c G_eq T.ne T.mro hr (by decide)) (pv 0) (pv 2) (nomark _)) (pe_cmpR op_ne (pe_ix (r := rIxL K) ix_list (pv 3) pe_int (fun _ _ => rfl)) (pe_ix (r := rIxL K) ix_list (pv 1) pe_int (fun _ _ => rfl)) (nomark _)) (nomark _)))))) (pss_one (ps_ret pe_bl)) pss_nil)
      (pss_cons (ps_if (PW.pt (pw_or (pt_cmpR op_ne (pe_callB (call_shw g hu) (by rfl) T.b_repr (by decide +kernel) (pa_cons (pe_mS G_change T.cl takes0 hr (by decide) (pv 0) (pa_cons pe_str (pa_cons (pe_ix (r := rIxL K) ix_list (pv 3) pe_int (fun _ _ => rfl)) pa_nil))) pa_nil)) (pe_callB (call_shw g hu) (by rfl) T.b_repr (by decide +kernel) (pa_cons (pe_ix (r := rIxL K) ix_list (pv 1) pe_int (fun _ _ => rfl)) pa_nil)) (nomark _)) (pw_or1 (pt_not (pt_val (pe_cG G_law_is g hr (by decide) rfl (pa_cons (pv 0) (pa_cons (pe_op op_cat (pe_slice sl_list (pv 3) po_none (po_some pe_int)) (pe_slice sl_list (pv 1) (po_some pe_int) po_none)) pa_nil)))))))) (pss_one (ps_ret pe_bl)) pss_nil)
      (pss_cons (ps_if (PW.pt (pw_or (pt_cmpR op_ne (pe_cmpR (op_c G_eq hr (by decide)) (pv 0) (pv 2) (nomark _)) (pe_cmpR (op_eqD hu) (pe_slice sl_list (pv 3) po_none (po_some pe_int)) (pe_slice sl_list (pv 1) po_none (po_some pe_int)) (nomark _)) (nomark _)) (pw_or (pt_cmpR op_ne (pe_cmpR (op_c G_eq hr (by decide)) (pv 2) (pv 0) (nomark _)) (pe_cmpR (op_eqD hu) (pe_slice sl_list (pv 3) po_none (po_some pe_int)) (pe_slice sl_list (pv 1) po_none (po_some pe_int)) (nomark _)) (nomark _)) (pw_or1 (pt_not (pt_val (pe_cG G_law_is g hr (by decide) rfl (pa_cons (pv 2) (pa_cons (pv 1) pa_nil))))))))) (pss_one (ps_ret pe_bl)) pss_nil)
      (pss_cons (ps_set (i := 4) sc_law_changed.nd rfl (Or.inl rfl) (pe_lst (pa_cons (pe_mS G_change T.cl takes0 hr (by decide) (pv 2) (pa_cons pe_str (pa_cons (pe_ix (r := rIxL K) ix_list (pv 3) pe_int (fun _ _ => rfl)) pa_nil))) (pa_cons (pe_mS G_change T.cl takes0 hr (by decide) (pv 2) (pa_cons pe_str (pa_cons (pe_ix (r := rIxL K) ix_list (pv 3) pe_int (fun _ _ => rfl)) pa_nil))) pa_nil))))
      (pss_one (ps_ret (pe_and (pe_cmpR op_eq (pe_callB (call_shw g hu) (by rfl) T.b_repr (by decide +kernel) (pa_cons (pv 4) pa_nil)) (pe_callB (call_shw g hu) (by rfl) T.b_repr (by decide +kernel) (pa_cons (pe_lst (pa_cons (pe_ix (r := rIxL K) ix_list (pv 1) pe_int (fun _ _ => rfl)) (pa_cons (pe_ix (r := rIxL K) ix_list (pv 1) pe_int (fun _ _ => rfl)) pa_nil))) pa_nil)) (nomark _)) (pe_one (pe_cmpR (op_c G_eq hr (by decide)) (pv 0) (pv 2) (nomark _))))))))))), ?_⟩
    -- gap of one
    obtain ⟨dx, ex⟩ := id kx
    refine ⟨_, rfl, x, dx, _, rfl, ex, get_no _ _ _ (by decide +kernel) (by decide +kernel) (by decide +kernel), _, rfl, m, _, 0, _, rfl, rfl, hm, atI_nat (j := 0) rfl, x, r, .str "gap", .int q.g, rfl, kx, .inl ⟨rfl, .inl ⟨q.g, rfl, okq.g.1, okq.g.2, fun H1 kx1 kp1 => ?_⟩⟩⟩
    have t1 : S2 x y H H1 := S2.left kp1
    have ky1 : KAt C H1 y r := kat_left kp1 yx ky
    have hl1 := t1.seq kx ky hl
    have hm1 := t1.seq kx ky hm
    refine ⟨.int r.g, _, rfl, shw_int okr.g, _, rfl, l, _, 0, _, rfl, rfl, hl1, atI_nat (j := 0) rfl, .int r.g, _, rfl, shw_int okr.g, rfl, _, rfl, iteFe (by rw [decide_eq_true rfl]; rfl) ?_⟩
    refine ⟨_, rfl, _, rfl, m, _, 0, _, rfl, rfl, hm1, atI_nat (j := 0) rfl, by show 1 ≤ sizeLine; decide, fun q1 nq1 => ?_⟩
    have u1 := same_new (o := .lst [.int q.g]) nq1
    refine ⟨_, rfl, 1, rfl, l, rowV r, rfl, u1.seq hl1, fun q2 nq2 => ?_⟩
    have u2 := same_new' (o := .lst (cutV (rowV r) (some 1) none)) u1 nq2
    have q12 : q1 ≠ q2 := fun z => by rw [← z, upd_same] at nq2; cases nq2
    refine ⟨q1, q2, [.int q.g], _, rfl, rfl, by rw [upd_ne q12, upd_same], upd_same, by rw [c1]; exact le3, fun q3 nq3 => ?_⟩
    have u3 := same_new' (o := .lst ([.int q.g] ++ cutV (rowV r) (some 1) none)) u2 nq3
    refine ⟨x, q3, ⟨q.g, r.a, r.s⟩, rfl, same_kat u3 kx1, SqL.of upd_same, ⟨okq.g, okr.a, okr.s⟩, kwr, fun H2 v2 => ⟨_, rfl, iteF ?_⟩⟩
    have u4 := u3.trans v2
    -- other is as it was
    refine ⟨_, rfl, _, rfl, y, l, r, rfl, same_kat u4 ky1, u4.seq hl1, okr, kwr, fun H3 v3 => ⟨_, rfl, iteF ?_⟩⟩
    have u5 := u4.trans v3
    have kx3 := same_kat u5 kx1
    have ky3 := same_kat u5 ky1
    have hl3 := u5.seq hl1
    have hm3 := u5.seq hm1
    obtain ⟨dx3, ex3⟩ := id kx3
    obtain ⟨dy3, ey3⟩ := id ky3
    have kk : keq ⟨q.g, r.a, r.s⟩ r = decide (V.int q.g = V.int r.g) := by
      unfold keq
      rw [decide_eq_true (show oV r.a = oV r.a from rfl), decide_eq_true (show sV r.s = sV r.s from rfl)]
      exact Bool.and_true _
    refine ⟨_, rfl, _, rfl, x, dx3, _, .ref C, rfl, ex3, T.ty ky3, T.oCC, x, .ref y, _, rfl, kx3, .inl ⟨y, r, rfl, ky3, ?_⟩⟩
    refine ⟨_, rfl, m, _, 0, _, rfl, rfl, hm3, atI_nat (j := 0) rfl, _, rfl, l, _, 0, _, rfl, rfl, hl3, atI_nat (j := 0) rfl, rfl, rfl, _, rfl, iteFe (by rw [kk, decide_eq_true rfl]; rfl) ?_⟩
    refine ⟨_, rfl, _, rfl, x, dx3, _, .ref C, rfl, ex3, T.ty ky3, T.oCC, x, .ref y, _, rfl, kx3, .inl ⟨y, r, rfl, ky3, _, rfl, ?_⟩⟩
    refine ⟨_, rfl, m, _, 0, _, rfl, rfl, hm3, atI_nat (j := 0) rfl, _, rfl, l, _, 0, _, rfl, rfl, hl3, atI_nat (j := 0) rfl, rfl, rfl, _, rfl, iteFe (by rw [kk, decide_eq_true rfl]; rfl) ?_⟩
    -- age of one
    have ta : S2 x y H H3 := t1.trans (S2.of u5)
    obtain ⟨tx, sh1, sh2⟩ := shw_a (K := K) (H := H3) okr.a
    refine ⟨_, rfl, x, dx3, _, rfl, ex3, get_no _ _ _ (by decide +kernel) (by decide +kernel) (by decide +kernel), _, rfl, m, _, 1, _, rfl, rfl, hm3, atI_nat (j := 1) rfl, x, _, .str "age", oV q.a, rfl, kx3, .inr (.inl ⟨rfl, .inl ⟨q.a, rfl, okq.a, fun H4 kx4 kp4 => ?_⟩⟩)⟩
    have t4 : S2 x y H H4 := ta.trans (S2.left kp4)
    have ky4 : KAt C H4 y r := kat_left kp4 yx ky3
    have hl4 := (S2.left (y := y) kp4).seq kx3 ky3 hl3
    have hm4 := (S2.left (y := y) kp4).seq kx3 ky3 hm3
    refine ⟨oV r.a, tx, rfl, sh2 _, _, rfl, l, _, 1, _, rfl, rfl, hl4, atI_nat (j := 1) rfl, oV r.a, tx, rfl, sh2 _, rfl, _, rfl, iteFe (by rw [decide_eq_true rfl]; rfl) ?_⟩
    refine ⟨_, rfl, _, rfl, 2, rfl, m, rowV q, rfl, hm4, fun p1 np1 => ?_⟩
    have w1 := same_new (o := .lst (cutV (rowV q) none (some 2))) np1
    refine ⟨_, rfl, 2, rfl, l, rowV r, rfl, w1.seq hl4, fun p2 np2 => ?_⟩
    have w2 := same_new' (o := .lst (cutV (rowV r) (some 2) none)) w1 np2
    have p12 : p1 ≠ p2 := fun z => by rw [← z, upd_same] at np2; cases np2
    refine ⟨p1, p2, _, _, rfl, rfl, by rw [upd_ne p12, upd_same], upd_same, by rw [c2, c4]; exact le3, fun p3 np3 => ?_⟩
    have w3 := same_new' (o := .lst (cutV (rowV q) none (some 2) ++ cutV (rowV r) (some 2) none)) w2 np3
    refine ⟨x, p3, ⟨q.g, q.a, r.s⟩, rfl, same_kat w3 kx4, SqL.of upd_same, ⟨okq.g, okq.a, okr.s⟩, kwr, fun H5 v5 => ⟨_, rfl, iteF ?_⟩⟩
    have w5 := w3.trans v5
    have kx5 := same_kat w5 kx4
    have ky5 := same_kat w5 ky4
    have hl5 := w5.seq hl4
    have hm5 := w5.seq hm4
    obtain ⟨dx5, ex5⟩ := id kx5
    obtain ⟨dy5, ey5⟩ := id ky5
    have k1 : keq ⟨q.g, q.a, r.s⟩ r = (decide (V.int q.g = V.int r.g) && decide (oV q.a = oV r.a)) := by
      unfold keq
      rw [decide_eq_true (show sV r.s = sV r.s from rfl), Bool.and_true]
    have k2 : keq r ⟨q.g, q.a, r.s⟩ = (decide (V.int q.g = V.int r.g) && decide (oV q.a = oV r.a)) := by
      unfold keq
      rw [decide_eq_true (show sV r.s = sV r.s from rfl), Bool.and_true]
      congr 1
      · exact decide_eq_decide.mpr ⟨Eq.symm, Eq.symm⟩
      · exact decide_eq_decide.mpr ⟨Eq.symm, Eq.symm⟩
    refine ⟨_, rfl, _, rfl, x, dx5, _, .ref C, rfl, ex5, T.ty ky5, T.oCC, x, .ref y, _, rfl, kx5, .inl ⟨y, r, rfl, ky5, ?_⟩⟩
    refine ⟨_, rfl, 2, rfl, m, rowV q, rfl, hm5, fun a1 na1 => ?_⟩
    have z1 := same_new (o := .lst (cutV (rowV q) none (some 2))) na1
    refine ⟨_, rfl, 2, rfl, l, rowV r, rfl, z1.seq hl5, fun a2 na2 => ?_⟩
    have z2 := same_new' (o := .lst (cutV (rowV r) none (some 2))) z1 na2
    have z12 := same_new (o := .lst (cutV (rowV r) none (some 2))) na2
    have g1 : SqL K (upd (upd H5 a1 (.lst (cutV (rowV q) none (some 2)))) a2 (.lst (cutV (rowV r) none (some 2)))) a1 [.int q.g, oV q.a] := SqL.of (z12 _ _ upd_same)
    have g2 : SqL K (upd (upd H5 a1 (.lst (cutV (rowV q) none (some 2)))) a2 (.lst (cutV (rowV r) none (some 2)))) a2 [.int r.g, oV r.a] := SqL.of upd_same
    refine ⟨_, _, .lst g1 (.cons (.int _) (.cons (dp_a _) .nil)), .lst g2 (.cons (.int _) (.cons (dp_a _) .nil)), shp_two _ _, shp_two _ _, rfl, _, rfl, iteFe (by rw [k1, eqv_two, decide_eq_true rfl]; rfl) ?_⟩
    have kx6 := same_kat z2 kx5
    have ky6 := same_kat z2 ky5
    have hl6 := z2.seq hl5
    have hm6 := z2.seq hm5
    obtain ⟨dx6, ex6⟩ := id kx6
    obtain ⟨dy6, ey6⟩ := id ky6
    refine ⟨_, rfl, _, rfl, y, dy6, _, .ref C, rfl, ey6, T.ty kx6, T.oCC, y, .ref x, _, rfl, ky6, .inl ⟨x, _, rfl, kx6, ?_⟩⟩
    refine ⟨_, rfl, 2, rfl, m, rowV q, rfl, hm6, fun b1 nb1 => ?_⟩
    have z3 := same_new (o := .lst (cutV (rowV q) none (some 2))) nb1
    refine ⟨_, rfl, 2, rfl, l, rowV r, rfl, z3.seq hl6, fun b2 nb2 => ?_⟩
    have z4 := same_new' (o := .lst (cutV (rowV r) none (some 2))) z3 nb2
    have z34 := same_new (o := .lst (cutV (rowV r) none (some 2))) nb2
    refine ⟨_, _, .lst (SqL.of (xs := [.int q.g, oV q.a]) (z34 _ _ upd_same)) (.cons (.int _) (.cons (dp_a _) .nil)), .lst (SqL.of (xs := [.int r.g, oV r.a]) upd_same) (.cons (.int _) (.cons (dp_a _) .nil)), shp_two _ _, shp_two _ _, rfl, _, rfl, iteFe (by rw [k2, eqv_two, decide_eq_true rfl]; rfl) ?_⟩
    refine ⟨_, rfl, _, rfl, y, l, r, rfl, same_kat z4 ky6, z4.seq hl6, okr, kwr, fun H7 v7 => ⟨_, rfl, iteF ?_⟩⟩
    have z5 := z4.trans v7
    have kx7 := same_kat z5 kx6
    have ky7 := same_kat z5 ky6
    have hl7 := z5.seq hl6
    have hm7 := z5.seq hm6
    have t7 : S2 x y H H7 := t4.trans (S2.of (w5.trans (z2.trans z5)))
    -- the other one
    obtain ⟨dy7, ey7⟩ := id ky7
    refine ⟨_, rfl, y, dy7, _, rfl, ey7, get_no _ _ _ (by decide +kernel) (by decide +kernel) (by decide +kernel), _, rfl, m, _, 1, _, rfl, rfl, hm7, atI_nat (j := 1) rfl, y, _, .str "age", oV q.a, rfl, ky7, .inr (.inl ⟨rfl, .inl ⟨q.a, rfl, okq.a, fun H8 ky8 kp8 => ?_⟩⟩)⟩
    have t8 : S2 x y H H8 := t7.trans (S2.right kp8)
    have kx8 := kat_left kp8 yx.symm kx7
    have hl8 := (S2.right (x := x) kp8).seq kx7 ky7 hl7
    have hm8 := (S2.right (x := x) kp8).seq kx7 ky7 hm7
    obtain ⟨dy8, ey8⟩ := id ky8
    refine ⟨_, rfl, y, dy8, _, rfl, ey8, get_no _ _ _ (by decide +kernel) (by decide +kernel) (by decide +kernel), _, rfl, m, _, 0, _, rfl, rfl, hm8, atI_nat (j := 0) rfl, y, _, .str "gap", .int q.g, rfl, ky8, .inl ⟨rfl, .inl ⟨q.g, rfl, okq.g.1, okq.g.2, fun H9 ky9 kp9 => ?_⟩⟩⟩
    have t9 : S2 x y H H9 := t8.trans (S2.right kp9)
    have kx9 := kat_left kp9 yx.symm kx8
    have hl9 := (S2.right (x := x) kp9).seq kx8 ky8 hl8
    refine ⟨by show 2 ≤ sizeLine; decide, fun e1 ne1 => ?_⟩
    have j1 := same_new (o := .lst [oV r.a, .int r.g]) ne1
    have smt : SmAll [oV r.a, .int r.g] [aD r.a, .int r.g] := .cons (sm_a okr.a) (.cons (sm_g okr.g) .nil)
    refine ⟨_, rfl, .ref e1, _, rfl, smt.shw (show 2 ≤ 6 by decide) (SqL.of upd_same), ?_⟩
    refine ⟨_, rfl, l, _, 1, _, rfl, rfl, j1.seq hl9, atI_nat (j := 1) rfl, _, rfl, l, _, 0, _, rfl, rfl, j1.seq hl9, atI_nat (j := 0) rfl, by show 2 ≤ sizeLine; decide, fun e2 ne2 => ?_⟩
    have j2 := same_new' (o := .lst [oV r.a, .int r.g]) j1 ne2
    refine ⟨.ref e2, _, rfl, smt.shw (show 2 ≤ 6 by decide) (SqL.of upd_same), rfl, _, rfl, iteTe (decide_eq_true rfl) ?_⟩
    have kxe := same_kat j2 kx9
    have kye := same_kat j2 ky9
    obtain ⟨dxe, exe⟩ := id kxe
    refine ⟨_, rfl, _, rfl, x, dxe, _, .ref C, rfl, exe, T.ty kye, T.oCC, x, .ref y, _, rfl, kxe, .inl ⟨y, _, rfl, kye, ?_⟩⟩
    exact q_true (keq_self _) (k _ (t9.trans (S2.of j2)))
end

end K11

namespace K11
open PySem PySem.Spec PyProof.Rows L2 Jg
local macro_rules | `(tactic| walk_at "rd1") => `(tactic| (first
  | refine ⟨_, rfl, ?_⟩
  | refine ⟨_, _, rfl, rfl, ?_⟩
  | refine ⟨_, _, rfl, ?_⟩
  | refine ⟨rfl, ?_⟩
  | (refine ⟨show (0 : Int) < _ by omega, ?_⟩)
  | (refine ⟨Or.inl ⟨by omega, by omega⟩, ?_⟩)
  | (refine ⟨Or.inr ⟨by omega, by omega⟩, ?_⟩)
  | (refine ⟨(⟨by decide, by decide, by decide⟩ : CPow _ _), ?_⟩)
  | refine Or.inl ⟨_, rfl, ?_⟩
  | refine Or.inr ⟨_, rfl, ?_⟩
  | fail "rd"))
local macro_rules | `(tactic| walk_at "rd") => `(tactic| repeat' walk_at "rd1")


def spLaw (K : PySem.W.Frag) : Sp := fun vs H Q _ => ∃ (a : Addr) (ns : List Int), vs = [.ref a] ∧ SqL K H a (ns.map V.int) ∧ ns.length ≤ 63 ∧ ∀ H', Q (.bl true) H'
def g1 : List V → List V → List V := fun vs zs => vs ++ zs ++ [.non, .non]
theorem S2.out {x y : Addr} {H H1 H2 : Hp} (a : Same H H1) (b : S2 x y H1 H2) (nx : H x = none) (ny : H y = none) : Same H H2 := fun q o e => b q o (a q o e) (ne_of_none e nx) (ne_of_none e ny)
section
variable {K : PySem.W.Frag} {H : Hp}
theorem no_of {y : V} {t : Value} (ty : ∀ H', Same H H' → TyX K H' y t) (k : kit K t "int" false) : NoInt K H y := ⟨t, false, false, ty, k, (fun z => nomatch z), rfl⟩
theorem no_bl (b : Bool) : NoInt K H (.bl b) := ⟨_, true, true, fun _ _ => .base (.bl b), kit_ty (by decide +kernel), fun _ => kit_ty (by decide +kernel), rfl⟩
theorem ty_lst {a : Addr} {xs : List V} (h : H a = some (.lst xs)) : ∀ H', Same H H' → TyX K H' (.ref a) (.type "list") := fun H' s => .base (.lst (s _ _ h))
theorem ty_tup {a : Addr} {xs : List V} (h : H a = some (.tup xs)) : ∀ H', Same H H' → TyX K H' (.ref a) (.type "tuple") := fun H' s => .base (.tup (s _ _ h))
theorem ty_dk {a : Addr} (h : H a = some (.dK [])) : ∀ H', Same H H' → TyX K H' (.ref a) (.type "dict") := fun H' s => .base (.dK (s _ _ h))
theorem sw_int (i : Int) (z : i.natAbs.log2 < 1920) (o : PyData.strOk (toString i) = true) : ShwE K H (.int i) := ⟨_, o, fun _ _ => .int i z⟩
theorem sw_bl (b : Bool) : ShwE K H (.bl b) := ⟨_, (by cases b <;> decide +kernel), fun _ _ => .bl b⟩
theorem sw_non : ShwE K H .non := ⟨_, (by decide +kernel), fun _ _ => .non⟩
theorem sw_dk {a : Addr} (h : H a = some (.dK [])) : ShwE K H (.ref a) := ⟨_, (by decide +kernel), fun H' s => .dnew (s _ _ h)⟩
theorem sw_tup0 {a : Addr} (h : H a = some (.tup [])) : ShwE K H (.ref a) := ⟨_, (by decide +kernel), fun H' s => .dat (.tup (SqT.of (s _ _ h)) .nil) (by decide +kernel) (by decide +kernel) (by decide +kernel)⟩
theorem sw_tupA {a : Addr} (h : H a = some (.tup [.str "a"])) : ShwE K H (.ref a) := ⟨_, (by decide +kernel), fun H' s => .dat (.tup (SqT.of (s _ _ h)) (.cons (.str _) .nil)) (by decide +kernel) (by decide +kernel) (by decide +kernel)⟩
theorem sw_lst1 {a : Addr} (h : H a = some (.lst [.int 1])) : ShwE K H (.ref a) := ⟨_, (by decide +kernel), fun H' s => .dat (.lst (SqL.of (s _ _ h)) (.cons (.int 1) .nil)) (by decide +kernel) (by decide +kernel) (by decide +kernel)⟩
theorem sw_lstN {a : Addr} (h : H a = some (.lst [.non])) : ShwE K H (.ref a) := ⟨_, (by decide +kernel), fun H' s => .dat (.lst (SqL.of (s _ _ h)) (.cons .non .nil)) (by decide +kernel) (by decide +kernel) (by decide +kernel)⟩
theorem sw_lstA {a : Addr} (h : H a = some (.lst [.str "a"])) : ShwE K H (.ref a) := ⟨_, (by decide +kernel), fun H' s => .dat (.lst (SqL.of (s _ _ h)) (.cons (.str _) .nil)) (by decide +kernel) (by decide +kernel) (by decide +kernel)⟩
abbrev big : Int := 10 ^ (30 : Int).toNat + 1
abbrev ys1 (a b c : Addr) : List V := [.int 0, .int (-1), .int big, .bl true, .non, .str "1", .ref a, .ref b, .ref c]
abbrev ys2 (a b c : Addr) : List V := [.int (-1), .int big, .bl false, .str "0", .ref a, .ref b, .ref c]
abbrev ys3 (a b c : Addr) : List V := [.str "", .str "A", .str "a b", .str "abcdefghi", .str "a1", .int 5, .bl true, .ref a, .ref b, .ref c]
theorem ys1_odd {a b c : Addr} (ha : H a = some (.lst [.int 1])) (hb : H b = some (.tup [])) (hc : H c = some (.dK [])) : ∀ y ∈ ys1 a b c, OddG K H y := by
  intro y hy
  simp only [ys1, List.mem_cons, List.not_mem_nil, or_false] at hy
  rcases hy with rfl | rfl | rfl | rfl | rfl | rfl | rfl | rfl | rfl
  · exact ⟨.inl ⟨_, rfl, by decide +kernel⟩, sw_int _ (by decide +kernel) (by decide +kernel)⟩
  · exact ⟨.inl ⟨_, rfl, by decide +kernel⟩, sw_int _ (by decide +kernel) (by decide +kernel)⟩
  · exact ⟨.inl ⟨_, rfl, by decide +kernel⟩, sw_int _ (by decide +kernel) (by decide +kernel)⟩
  · exact ⟨.inr (no_bl _), sw_bl _⟩
  · exact ⟨.inr (no_of (fun _ _ => .base .non) (kit_ty (by decide +kernel))), sw_non⟩
  · exact ⟨.inr (no_of (fun _ _ => .base (.str _)) (kit_ty (by decide +kernel))), shwE_str _ (by decide +kernel) (by decide +kernel)⟩
  · exact ⟨.inr (no_of (ty_lst ha) (kit_ty (by decide +kernel))), sw_lst1 ha⟩
  · exact ⟨.inr (no_of (ty_tup hb) (kit_ty (by decide +kernel))), sw_tup0 hb⟩
  · exact ⟨.inr (no_of (ty_dk hc) (kit_ty (by decide +kernel))), sw_dk hc⟩
theorem ys2_odd {a b c : Addr} (ha : H a = some (.lst [.non])) (hb : H b = some (.tup [])) (hc : H c = some (.dK [])) : ∀ y ∈ ys2 a b c, OddA K H y := by
  intro y hy
  simp only [ys2, List.mem_cons, List.not_mem_nil, or_false] at hy
  rcases hy with rfl | rfl | rfl | rfl | rfl | rfl | rfl
  · exact ⟨⟨(fun z => nomatch z), .inl ⟨_, rfl, by decide +kernel⟩⟩, sw_int _ (by decide +kernel) (by decide +kernel)⟩
  · exact ⟨⟨(fun z => nomatch z), .inl ⟨_, rfl, by decide +kernel⟩⟩, sw_int _ (by decide +kernel) (by decide +kernel)⟩
  · exact ⟨⟨(fun z => nomatch z), .inr (no_bl _)⟩, sw_bl _⟩
  · exact ⟨⟨(fun z => nomatch z), .inr (no_of (fun _ _ => .base (.str _)) (kit_ty (by decide +kernel)))⟩, shwE_str _ (by decide +kernel) (by decide +kernel)⟩
  · exact ⟨⟨(fun z => nomatch z), .inr (no_of (ty_lst ha) (kit_ty (by decide +kernel)))⟩, sw_lstN ha⟩
  · exact ⟨⟨(fun z => nomatch z), .inr (no_of (ty_tup hb) (kit_ty (by decide +kernel)))⟩, sw_tup0 hb⟩
  · exact ⟨⟨(fun z => nomatch z), .inr (no_of (ty_dk hc) (kit_ty (by decide +kernel)))⟩, sw_dk hc⟩
theorem ys3_odd {a b c : Addr} (ha : H a = some (.lst [.str "a"])) (hb : H b = some (.tup [.str "a"])) (hc : H c = some (.dK [])) : ∀ y ∈ ys3 a b c, OddS K H y := by
  intro y hy
  have ws : ∀ z : Str, z.length ≤ sizeLine → wordB z = false → bS K H (.str z) := fun z h e => ⟨(fun z => nomatch z), .inl ⟨z, rfl, h, e⟩⟩
  simp only [ys3, List.mem_cons, List.not_mem_nil, or_false] at hy
  rcases hy with rfl | rfl | rfl | rfl | rfl | rfl | rfl | rfl | rfl | rfl
  · exact ⟨ws _ (by decide +kernel) (by decide +kernel), shwE_str _ (by decide +kernel) (by decide +kernel)⟩
  · exact ⟨ws _ (by decide +kernel) (by decide +kernel), shwE_str _ (by decide +kernel) (by decide +kernel)⟩
  · exact ⟨ws _ (by decide +kernel) (by decide +kernel), shwE_str _ (by decide +kernel) (by decide +kernel)⟩
  · exact ⟨ws _ (by decide +kernel) (by decide +kernel), shwE_str _ (by decide +kernel) (by decide +kernel)⟩
  · exact ⟨ws _ (by decide +kernel) (by decide +kernel), shwE_str _ (by decide +kernel) (by decide +kernel)⟩
  · exact ⟨⟨(fun z => nomatch z), .inr ⟨_, (fun _ _ => .base (.int _)), kit_ty (by decide +kernel)⟩⟩, sw_int _ (by decide +kernel) (by decide +kernel)⟩
  · exact ⟨⟨(fun z => nomatch z), .inr ⟨_, (fun _ _ => .base (.bl _)), kit_ty (by decide +kernel)⟩⟩, sw_bl _⟩
  · exact ⟨⟨(fun z => nomatch z), .inr ⟨_, ty_lst ha, kit_ty (by decide +kernel)⟩⟩, sw_lstA ha⟩
  · exact ⟨⟨(fun z => nomatch z), .inr ⟨_, ty_tup hb, kit_ty (by decide +kernel)⟩⟩, sw_tupA hb⟩
  · exact ⟨⟨(fun z => nomatch z), .inr ⟨_, ty_dk hc, kit_ty (by decide +kernel)⟩⟩, sw_dk hc⟩
end
theorem OddG.keep {K : PySem.W.Frag} {H H' : Hp} {y : V} (h : OddG K H y) (s : Same H H') : OddG K H' y := ⟨BadR.keep h.1 s, h.2.keep s⟩
theorem OddA.keep {K : PySem.W.Frag} {H H' : Hp} {y : V} (h : OddA K H y) (s : Same H H') : OddA K H' y := ⟨⟨h.1.1, h.1.2.keep s⟩, h.2.keep s⟩
theorem OddS.keep {K : PySem.W.Frag} {H H' : Hp} {y : V} (h : OddS K H y) (s : Same H H') : OddS K H' y := ⟨⟨h.1.1, h.1.2.keep s⟩, h.2.keep s⟩
/-- what the law holds all along -/
structure Tbl (K : PySem.W.Frag) (l1 l2 l3 : Addr) (y1 y2 y3 : List V) (H : Hp) : Prop where
  h1 : SqL K H l1 y1
  h2 : SqL K H l2 y2
  h3 : SqL K H l3 y3
  o1 : ∀ y ∈ y1, OddG K H y
  o2 : ∀ y ∈ y2, OddA K H y
  o3 : ∀ y ∈ y3, OddS K H y
theorem Tbl.keep {K : PySem.W.Frag} {l1 l2 l3 : Addr} {y1 y2 y3 : List V} {H H' : Hp} (t : Tbl K l1 l2 l3 y1 y2 y3 H) (s : Same H H') : Tbl K l1 l2 l3 y1 y2 y3 H' :=
  ⟨s.seq t.h1, s.seq t.h2, s.seq t.h3, fun y h => (t.o1 y h).keep s, fun y h => (t.o2 y h).keep s, fun y h => (t.o3 y h).keep s⟩
section
variable {P : Program} {w : World} {K : PySem.W.Frag} {mg : Str → Option Value} {base : Heap} {C CI CU : Addr}
abbrev s_law : Stmt := top 29
theorem sc_law : FnScope ["script", "odd_spans", "odd_ages", "odd_feeders", "k", "plain", "stream", "words", "third", "odd", "row", "later", "one", "other"] ["script"] (defScope s_law) := ⟨rfl, rfl, rfl, by decide +kernel, rfl, by decide +kernel, by decide +kernel⟩
theorem body_law (T : Txt K mg C) (M_Kind1 : MakW P w K mg base (L2.CX P w) 5 "Kind" C ["gap"] g1 (spKInit K C CI)) (G_eq : Met P w K mg base CX0 1 C "__eq__" (spKEq K C)) (G_change : Met P w K mg base (L2.CX P w) 5 C "change" (spChange K C CI CU)) (G_law_stream : Cal P w K mg base CX0 1 "_law_stream" (spStream K))
    (G_law_words : Cal P w K mg base CX0 3 "_law_words" spWords) (G_law_part : Cal P w K mg base CX0 3 "_law_part" (spPart K)) (G_law_kind : Cal P w K mg base (L2.CX P w) 7 "_law_kind" (spMk K C CI)) (G_law_is : CalG P w K mg base CX0 4 "_law_is" (spIs K C)) (G_law_odd_made : CalG P w K mg base CX0 9 "_law_odd_made" (spOddMade K))
    (G_law_odd_set : CalG P w K mg base CX0 9 "_law_odd_set" (spOddSet K C)) (G_law_changed : CalG P w K mg base CX0 9 "_law_changed" (spChanged K C))
    (ff : Addr) (cdv : Value) (A : Around) (outer : List Env) (s : Shared) (H : Hp) (vs : List V) (Q : VK) (E : XK) (g : (cxOf CX0 P w K mg base ["script", "odd_spans", "odd_ages", "odd_feeders", "k", "plain", "stream", "words", "third", "odd", "row", "later", "one", "other"] "law" (defScope s_law) ff cdv A outer s H E).nox.A.guards = some []) (hr : Room 10 (A.deeper (envOfC "law" (defScope s_law) s.heap.objs.size ff cdv))) (h : spLaw K vs H Q E) :
    ∃ t, PSs (cxOf CX0 P w K mg base ["script", "odd_spans", "odd_ages", "odd_feeders", "k", "plain", "stream", "words", "third", "odd", "row", "later", "one", "other"] "law" (defScope s_law) ff cdv A outer s H E).nox (defBody s_law) t ∧ t { nx := fun _ H' => Q .non H', rt := Q } (start ["script", "odd_spans", "odd_ages", "odd_feeders", "k", "plain", "stream", "words", "third", "odd", "row", "later", "one", "other"] vs) H := by
  obtain ⟨a, ns, rfl, hS, hl, k⟩ := h
  have hu : (A.deeper (envOfC "law" (defScope s_law) s.heap.objs.size ff cdv)).units + 64 < cLine := hr.units
  refine ⟨_, (pss_cons (ps_set (i := 1) sc_law.nd rfl (Or.inl rfl) (pe_lst (pa_cons pe_int (pa_cons (pe_un un_neg pe_int) (pa_cons (pe_op op_add (pe_op op_pow pe_int pe_int) pe_int) (pa_cons pe_bl (pa_cons pe_non (pa_cons pe_str (pa_cons (pe_lst (pa_cons pe_int pa_nil)) (pa_cons (pe_tup pa_nil) (pa_cons pe_dnewK pa_nil)))))))))))
      (pss_cons (ps_set (i := 2) sc_law.nd rfl (Or.inl rfl) (pe_lst (pa_cons (pe_un un_neg pe_int) (pa_cons (pe_op op_add (pe_op op_pow pe_int pe_int) pe_int) (pa_cons pe_bl (pa_cons pe_str (pa_cons (pe_lst (pa_cons pe_non pa_nil)) (pa_cons (pe_tup pa_nil) (pa_cons pe_dnewK pa_nil)))))))))
      (pss_cons (ps_set (i := 3) sc_law.nd rfl (Or.inl rfl) (pe_lst (pa_cons pe_str (pa_cons pe_str (pa_cons pe_str (pa_cons pe_str (pa_cons pe_str (pa_cons pe_int (pa_cons pe_bl (pa_cons (pe_lst (pa_cons pe_str pa_nil)) (pa_cons (pe_tup (pa_cons pe_str pa_nil)) (pa_cons pe_dnewK pa_nil))))))))))))
      (pss_cons (ps_for PassesOwn.never rfl (pi_range1 (by rfl) T.b_range (pa_cons (pe_callB (call_max2 rfl) (by rfl) T.b_max (by decide +kernel) (pa_cons pe_int (pa_cons (pe_callB (call_min2 rfl) (by rfl) T.b_min (by decide +kernel) (pa_cons pe_int (pa_cons (pe_callB call_len_seq (by rfl) T.b_len (by decide +kernel) (pa_cons (pv 0) pa_nil)) pa_nil))) pa_nil))) pa_nil)) (pg_name (i := 4) sc_law.nd rfl (Or.inl rfl)) (pss_cons (ps_set (i := 6) sc_law.nd rfl (Or.inl rfl) (pe_c G_law_stream hr (by decide) rfl (pa_cons (pv 0) (pa_cons (pv 4) pa_nil))))
      (pss_cons (ps_set (i := 7) sc_law.nd rfl (Or.inl rfl) (pe_c G_law_words hr (by decide) rfl (pa_cons (pv 6) (pa_cons pe_int pa_nil))))
      (pss_cons (ps_par (i := 10) (j := 11) (by rfl) sc_law.nd rfl rfl (by decide) rfl rfl (pa_cons (pe_c G_law_part hr (by decide) rfl (pa_cons (pv 6) (pa_cons (pv 7) pa_nil))) (pa_cons (pe_c G_law_part hr (by decide) rfl (pa_cons (pv 6) (pa_cons (pv 7) pa_nil))) pa_nil)) (by rfl))
      (pss_cons (ps_par (i := 12) (j := 13) (by rfl) sc_law.nd rfl rfl (by decide) rfl rfl (pa_cons (pe_cS G_law_kind takes0 hr (by decide) rfl (pa_cons (pv 10) pa_nil)) (pa_cons (pe_cS G_law_kind takes0 hr (by decide) rfl (pa_cons (pv 10) pa_nil)) pa_nil)) (by rfl))
      (pss_cons (ps_set (i := 8) sc_law.nd rfl (Or.inl rfl) (pe_cS G_law_kind takes0 hr (by decide) rfl (pa_cons (pe_op op_cat (pe_slice sl_list (pv 10) po_none (po_some pe_int)) (pe_lst (pa_cons (pe_ix (r := rIxL K) ix_list (pv 11) pe_int (fun _ _ => rfl)) pa_nil))) pa_nil)))
      (pss_cons (ps_if (PW.pt (pw_or (pt_not (pt_val (pe_cG G_law_is g hr (by decide) rfl (pa_cons (pv 12) (pa_cons (pv 10) pa_nil))))) (pw_or (pt_not (pt_cmpR (op_c G_eq hr (by decide)) (pv 12) (pv 13) (nomark _))) (pw_or (pt_cmpR (op_ne_c G_eq T.ne T.mro hr (by decide)) (pv 12) (pv 13) (nomark _)) (pw_or1 (pt_cmpR op_ne (pe_cmpR (op_c G_eq hr (by decide)) (pv 12) (pv 8) (nomark _)) (pe_cmpR op_eq (pe_ix (r := rIxL K) ix_list (pv 10) pe_int (fun _ _ => rfl)) (pe_ix (r := rIxL K) ix_list (pv 11) pe_int (fun _ _ => rfl)) (nomark _)) (nomark _))))))) (pss_one (ps_ret pe_bl)) pss_nil)
      (pss_cons (ps_for PassesOwn.never rfl (pi_list (pe_lst (pa_cons pe_non (pa_cons (pv 10) (pa_cons (pe_callTy call_tuple_of (by rfl) T.b_tuple (by decide +kernel) (pa_cons (pv 10) pa_nil)) (pa_cons (pe_ix (r := rIxL K) ix_list (pv 10) pe_int (fun _ _ => rfl)) (pa_cons pe_str (pa_cons (pe_ix (r := rIxL K) ix_list (pv 7) pe_int (fun _ _ => rfl)) (pa_cons pe_dnewK pa_nil))))))))) (pg_name (i := 9) sc_law.nd rfl (Or.inl rfl)) (pss_one (ps_if (PW.pt (pw_or (pt_cmpR (op_c G_eq hr (by decide)) (pv 12) (pv 9) (nomark _)) (pw_or1 (pt_not (pt_cmpR (op_ne_c G_eq T.ne T.mro hr (by decide)) (pv 12) (pv 9) (nomark _)))))) (pss_one (ps_ret pe_bl)) pss_nil)))
      (pss_cons (ps_if (pt_not (pt_val (pe_cG G_law_odd_made g hr (by decide) rfl (pa_cons (pv 10) (pa_cons (pv 1) (pa_cons (pv 2) (pa_cons (pv 3) pa_nil))))))) (pss_one (ps_ret pe_bl)) pss_nil)
      (pss_cons (ps_if (pt_not (pt_val (pe_cG G_law_odd_set g hr (by decide) rfl (pa_cons (pv 12) (pa_cons (pv 10) (pa_cons (pv 1) (pa_cons (pv 2) pa_nil))))))) (pss_one (ps_ret pe_bl)) pss_nil)
      (pss_one (ps_if (pt_not (pt_val (pe_cG G_law_changed g hr (by decide) rfl (pa_cons (pv 12) (pa_cons (pv 10) (pa_cons (pv 13) (pa_cons (pv 11) pa_nil))))))) (pss_one (ps_ret pe_bl)) pss_nil))))))))))))
      (pss_cons (ps_set (i := 5) sc_law.nd rfl (Or.inl rfl) (pe_mkKS M_Kind1 takes0 hr (by decide) rfl (pk_cons pe_int pk_nil)))
      (pss_one (ps_ret (pe_and (pe_cG G_law_is g hr (by decide) rfl (pa_cons (pv 5) (pa_cons (pe_lst (pa_cons pe_int (pa_cons pe_non (pa_cons pe_non pa_nil)))) pa_nil))) (pe_and (pe_cmpR op_isN (pe_mS G_change T.cl takes0 hr (by decide) (pv 5) (pa_cons pe_str (pa_cons pe_int pa_nil))) pe_non (nomark _)) (pe_one (pe_cG G_law_is g hr (by decide) rfl (pa_cons (pv 5) (pa_cons (pe_lst (pa_cons pe_int (pa_cons pe_int (pa_cons pe_non pa_nil)))) pa_nil))))))))))))), ?_⟩
  have cp : CPow 10 30 := ⟨by decide, by decide, by decide⟩
  refine ⟨_, rfl, _, _, rfl, rfl, cp, _, _, rfl, rfl, by show 1 ≤ sizeLine; decide, fun a1 na1 => ?_⟩
  have p1 := same_new (o := .lst [.int 1]) na1
  refine ⟨by show 0 ≤ sizeLine; decide, fun a2 na2 => ?_⟩
  have p2 := same_new (o := .tup []) na2
  intro a3 na3
  have p3 := same_new (o := .dK []) na3
  refine ⟨by show 9 ≤ sizeLine; decide, fun l1 nl1 => ?_⟩
  have p4 := same_new (o := .lst (ys1 a1 a2 a3)) nl1
  refine ⟨_, rfl, _, _, rfl, rfl, cp, _, _, rfl, rfl, by show 1 ≤ sizeLine; decide, fun b1 nb1 => ?_⟩
  have p5 := same_new (o := .lst [.non]) nb1
  refine ⟨by show 0 ≤ sizeLine; decide, fun b2 nb2 => ?_⟩
  have p6 := same_new (o := .tup []) nb2
  intro b3 nb3
  have p7 := same_new (o := .dK []) nb3
  refine ⟨by show 7 ≤ sizeLine; decide, fun l2 nl2 => ?_⟩
  have p8 := same_new (o := .lst (ys2 b1 b2 b3)) nl2
  refine ⟨by show 1 ≤ sizeLine; decide, fun c1 nc1 => ?_⟩
  have p9 := same_new (o := .lst [.str "a"]) nc1
  refine ⟨by show 1 ≤ sizeLine; decide, fun c2 nc2 => ?_⟩
  have p10 := same_new (o := .tup [.str "a"]) nc2
  intro c3 nc3
  have p11 := same_new (o := .dK []) nc3
  refine ⟨by show 10 ≤ sizeLine; decide, fun l3 nl3 => ?_⟩
  have p12 := same_new (o := .lst (ys3 c1 c2 c3)) nl3
  obtain ⟨Hz, eHz⟩ : ∃ Hz, Hz = upd (upd (upd (upd (upd (upd (upd (upd (upd (upd (upd (upd H a1 (.lst [.int 1])) a2 (.tup [])) a3 (.dK [])) l1 (.lst (ys1 a1 a2 a3))) b1 (.lst [.non])) b2 (.tup [])) b3 (.dK [])) l2 (.lst (ys2 b1 b2 b3))) c1 (.lst [.str "a"])) c2 (.tup [.str "a"])) c3 (.dK [])) l3 (.lst (ys3 c1 c2 c3)) := ⟨_, rfl⟩
  have q11 := p11.trans p12
  have q10 := p10.trans q11
  have q9 := p9.trans q10
  have q8 := p8.trans q9
  have q7 := p7.trans q8
  have q6 := p6.trans q7
  have q5 := p5.trans q6
  have q4 := p4.trans q5
  have q3 := p3.trans q4
  have q2 := p2.trans q3
  have q1 := p1.trans q2
  have sz : Same H Hz := eHz ▸ q1
  have tb : Tbl K l1 l2 l3 (ys1 a1 a2 a3) (ys2 b1 b2 b3) (ys3 c1 c2 c3) Hz := by
    rw [eHz]
    exact ⟨SqL.of (q5 _ _ upd_same), SqL.of (q9 _ _ upd_same), SqL.of upd_same, ys1_odd (q2 _ _ upd_same) (q3 _ _ upd_same) (q4 _ _ upd_same), ys2_odd (q6 _ _ upd_same) (q7 _ _ upd_same) (q8 _ _ upd_same), ys3_odd (q10 _ _ upd_same) (q11 _ _ upd_same) (p12 _ _ upd_same)⟩
  rw [← eHz]
  clear eHz
  clear p1 p2 p3 p4 p5 p6 p7 p8 p9 p10 p11 p12 q1 q2 q3 q4 q5 q6 q7 q8 q9 q10 q11
  refine ⟨_, rfl, a, _, rfl, .inl (sz.seq hS), _, _, rfl, _, _, rfl, _, rfl, by split <;> split <;> omega, by rw [List.length_map]; split <;> split <;> omega, ?_⟩
  have tn : ∀ i : Nat, i < (if (if ((ns.map V.int).length : Int) < 10 then ((ns.map V.int).length : Int) else 10) > 1 then (if ((ns.map V.int).length : Int) < 10 then ((ns.map V.int).length : Int) else 10) else 1).toNat → i ≤ 1000 := by
    intro i hi
    rw [List.length_map] at hi
    split at hi <;> split at hi <;> omega
  refine for_range (lo := 0) (fun i sg H' => ∃ v4 v5 v6 v7 v8 v9 v10 v11 v12 v13 : Option V, sg = [some (.ref a), some (.ref l1), some (.ref l2), some (.ref l3), v4, v5, v6, v7, v8, v9, v10, v11, v12, v13] ∧ Same Hz H') ⟨_, _, _, _, _, _, _, _, _, _, rfl, .refl Hz⟩ ?_ ?_
  · rintro i sg H1 hi ⟨v4, v5, v6, v7, v8, v9, v10, v11, v12, v13, rfl, s1⟩
    have hk := tn i hi
    clear tn hi
    have ei : (0 : Int) + (i : Nat) = ((i : Nat) : Int) := by omega
    rw [ei]
    -- stream, words, row, later
    refine ⟨_, rfl, _, rfl, a, ns, i, rfl, (sz.trans s1).seq hS, hk, fun p x y np hx => ?_⟩
    have npz : Hz p = none := s1.free np
    have sA : Same Hz (upd H1 p (.lst [.int x, .int y])) := same_new' s1 np
    refine ⟨_, rfl, p, 2, rfl, by decide, by decide, ⟨x, y, upd_same, hx⟩, fun lw ws H2 nlw lwp wl ww hlw st2 sb2 => ?_⟩
    have s2 : Same Hz H2 := SameB.out sA sb2 npz
    have wl2 : ws.length = 2 := wl
    refine ⟨_, rfl, _, rfl, p, lw, ws, rfl, st2, lwp, SqL.of hlw, by omega, by omega, ww, fun r q1 H3 okr kwr nq1 q1p hq1 st3 sb3 => ?_⟩
    refine ⟨_, rfl, _, rfl, p, lw, ws, rfl, st3, lwp, SqL.of (sb3 _ _ hlw lwp), by omega, by omega, ww, fun q q2 H4 okq kwq nq2 q2p hq2 st4 sb4 => ?_⟩
    refine ⟨_, _, rfl, ?_⟩
    have s4 : Same Hz H4 := SameB.out (SameB.out s2 sb3 npz) sb4 npz
    have hq14 := sb4 _ _ hq1 q1p
    have hlw4 := sb4 _ _ (sb3 _ _ hlw lwp) lwp
    -- one, other, third
    refine ⟨_, rfl, q1, .int r.g, oV r.a, sV r.s, rfl, SqL.of hq14, .inl ⟨r, rfl, rfl, rfl, okr, fun x1 H5 nx1 s5 kx1 => ?_⟩⟩
    refine ⟨_, rfl, q1, .int r.g, oV r.a, sV r.s, rfl, SqL.of (s5 _ _ hq14), .inl ⟨r, rfl, rfl, rfl, okr, fun x2 H6 nx2 s6 kx2 => ?_⟩⟩
    refine ⟨_, _, rfl, ?_⟩
    have x21 : x2 ≠ x1 := fun z => by
      obtain ⟨d, e⟩ := kx1
      rw [z, e] at nx2; cases nx2
    have nx1z : Hz x1 = none := s4.free nx1
    have nx2z : Hz x2 = none := (s4.trans s5).free nx2
    have s46 := s5.trans s6
    have hq16 := s46 _ _ hq14
    have hq26 := s46 _ _ hq2
    refine ⟨_, rfl, 2, rfl, q1, rowV r, rfl, SqL.of hq16, fun c1' n1 => ?_⟩
    have w1 := same_new (o := .lst (cutV (rowV r) none (some 2))) n1
    refine ⟨_, rfl, q2, _, 2, _, rfl, rfl, SqL.of (w1 _ _ hq26), atI_nat (j := 2) rfl, by show 1 ≤ sizeLine; decide, fun c2' n2 => ?_⟩
    have w2 := same_new' (o := .lst [sV q.s]) w1 n2
    have c12 : c1' ≠ c2' := fun z => by rw [← z, upd_same] at n2; cases n2
    have cut2 : cutV (rowV r) none (some 2) = [.int r.g, oV r.a] := rfl
    have le3 : 3 ≤ sizeLine := by decide
    refine ⟨c1', c2', _, _, rfl, rfl, by rw [upd_ne c12, upd_same], upd_same, by rw [cut2]; exact le3, fun c3' n3 => ?_⟩
    have w3 := same_new' (o := .lst (cutV (rowV r) none (some 2) ++ [sV q.s])) w2 n3
    refine ⟨c3', .int r.g, oV r.a, sV q.s, rfl, SqL.of upd_same, .inl ⟨⟨r.g, r.a, q.s⟩, rfl, rfl, rfl, ⟨okr.g, okr.a, okq.s⟩, fun x3 H7 nx3 s7 kx3 => ?_⟩⟩
    have s67 := w3.trans s7
    have k17 := same_kat (s6.trans s67) kx1
    have k27 := same_kat s67 kx2
    have hq17 := s67 _ _ hq16
    have hq27 := s67 _ _ hq26
    have s7z : Same Hz H7 := s4.trans (s46.trans s67)
    -- what they are
    refine ⟨_, rfl, _, rfl, x1, q1, r, rfl, k17, SqL.of hq17, okr, kwr, fun H8 s8 => ⟨_, rfl, iteF ?_⟩⟩
    have k18 := same_kat s8 k17
    have k28 := same_kat s8 k27
    have k38 := same_kat s8 kx3
    obtain ⟨d1, e1⟩ := id k18
    refine ⟨_, rfl, _, rfl, x1, d1, _, .ref C, rfl, e1, T.ty k28, T.oCC, x1, .ref x2, r, rfl, k18, .inl ⟨x2, r, rfl, k28, ?_⟩⟩
    refine ⟨_, rfl, iteFe (by rw [keq_self]; rfl) ?_⟩
    refine ⟨_, rfl, _, rfl, x1, d1, _, .ref C, rfl, e1, T.ty k28, T.oCC, x1, .ref x2, r, rfl, k18, .inl ⟨x2, r, rfl, k28, _, rfl, ?_⟩⟩
    refine ⟨_, rfl, iteFe (by rw [keq_self]; rfl) ?_⟩
    have k3 : keq r ⟨r.g, r.a, q.s⟩ = decide (sV r.s = sV q.s) := by
      unfold keq
      rw [decide_eq_true (show V.int r.g = V.int r.g from rfl), decide_eq_true (show oV r.a = oV r.a from rfl)]
      rfl
    have scs : scal (sV r.s) (sV q.s) = true := by cases r.s <;> cases q.s <;> rfl
    refine ⟨_, rfl, _, rfl, x1, d1, _, .ref C, rfl, e1, T.ty k38, T.oCC, x1, .ref x3, r, rfl, k18, .inl ⟨x3, _, rfl, k38, ?_⟩⟩
    refine ⟨_, rfl, q1, _, 2, _, rfl, rfl, SqL.of (s8 _ _ hq17), atI_nat (j := 2) rfl, _, rfl, q2, _, 2, _, rfl, rfl, SqL.of (s8 _ _ hq27), atI_nat (j := 2) rfl, scs, rfl, _, rfl, iteFe (by rw [k3, decide_eq_true rfl]; rfl) ?_⟩
    -- odd ones
    have s8z := s7z.trans s8
    have hq18 := s8 _ _ hq17
    have hq28 := s8 _ _ hq27
    have hlw8 := s8 _ _ (s67 _ _ (s46 _ _ hlw4))
    obtain ⟨z0, hz0⟩ : ∃ z0, ws[0]? = some z0 := ⟨ws[0]'(by omega), List.getElem?_eq_getElem _⟩
    have hz0' : (ws.map V.str)[0]? = some (.str z0) := by rw [List.getElem?_map, hz0]; rfl
    refine ⟨_, rfl, _, rfl, q1, rowV r, rfl, .inl ⟨SqL.of hq18, fun tp ntp => ?_⟩⟩
    have u1 := same_new (o := .tup (rowV r)) ntp
    refine ⟨_, rfl, q1, _, 0, _, rfl, rfl, SqL.of (u1 _ _ hq18), atI_nat (j := 0) rfl, _, rfl, lw, _, 0, _, rfl, rfl, SqL.of (u1 _ _ hlw8), atI_nat (j := 0) hz0', ?_⟩
    intro dd ndd
    have u2 := same_new' (o := .dK []) u1 ndd
    refine ⟨by show 7 ≤ sizeLine; decide, fun lo nlo => ?_⟩
    have u3 := same_new' (o := .lst [.non, .ref q1, .ref tp, .int r.g, .str "kind", .str z0, .ref dd]) u2 nlo
    have etp := (same_new (o := .lst [.non, .ref q1, .ref tp, .int r.g, .str "kind", .str z0, .ref dd]) nlo) _ _ ((same_new (o := .dK []) ndd) _ _ (upd_same (H := H8) (a := tp) (o := .tup (rowV r))))
    have edd := (same_new (o := .lst [.non, .ref q1, .ref tp, .int r.g, .str "kind", .str z0, .ref dd]) nlo) _ _ (upd_same (a := dd) (o := .dK []))
    obtain ⟨He, eHe⟩ : ∃ He, He = upd (upd (upd H8 tp (.tup (rowV r))) dd (.dK [])) lo (.lst [.non, .ref q1, .ref tp, .int r.g, .str "kind", .str z0, .ref dd]) := ⟨_, rfl⟩
    have elo : He lo = some (.lst [.non, .ref q1, .ref tp, .int r.g, .str "kind", .str z0, .ref dd]) := by rw [eHe, upd_same]
    have etp' : He tp = some (.tup (rowV r)) := by rw [eHe]; exact etp
    have edd' : He dd = some (.dK []) := by rw [eHe]; exact edd
    have se : Same H8 He := by rw [eHe]; exact u3
    rw [← eHe]
    clear eHe u1 u2 u3 etp edd
    have hq1e := se _ _ hq18
    refine ⟨lo, rfl, ⟨_, SqL.of elo⟩, ?_⟩
    refine for_list (K := K) (a := lo) (xs := [.non, .ref q1, .ref tp, .int r.g, .str "kind", .str z0, .ref dd]) (fun _ sg H' => ∃ v9 : Option V, sg = [some (.ref a), some (.ref l1), some (.ref l2), some (.ref l3), some (.int i), v5, some (.ref p), some (.ref lw), some (.ref x3), v9, some (.ref q1), some (.ref q2), some (.ref x1), some (.ref x2)] ∧ Same He H') ⟨_, rfl, .refl _⟩ (fun _ sg H' _ ⟨_, _, z⟩ => SqL.of (z _ _ elo)) ?_ ?_
    · rintro j y sg H9 hj ⟨v9, rfl, s9⟩
      have od : ∃ t, TyX K H9 y t ∧ PySem.W.notFirst K C t = true ∧ PySem.W.kitOne K t (.ref C) = some false := by
        match j, hj with
        | 0, hj => cases hj; exact ⟨_, .base .non, T.oN, T.kN⟩
        | 1, hj => cases hj; exact ⟨_, .base (.lst (s9 _ _ hq1e)), T.oL, T.kL⟩
        | 2, hj => cases hj; exact ⟨_, .base (.tup (s9 _ _ etp')), T.oT, T.kT⟩
        | 3, hj => cases hj; exact ⟨_, .base (.int _), T.oI, T.kI⟩
        | 4, hj => cases hj; exact ⟨_, .base (.str _), T.oS, T.kS⟩
        | 5, hj => cases hj; exact ⟨_, .base (.str _), T.oS, T.kS⟩
        | 6, hj => cases hj; exact ⟨_, .base (.dK (s9 _ _ edd')), T.oD, T.kD⟩
        | j + 7, hj => cases hj
      obtain ⟨t, ty, nf, kt⟩ := od
      have k19 := same_kat (se.trans s9) k18
      obtain ⟨d9, e9⟩ := id k19
      refine ⟨_, rfl, _, rfl, x1, d9, _, t, rfl, e9, ty, nf, x1, y, r, rfl, k19, .inr ⟨t, ty, kt, _, rfl, iteF ?_⟩⟩
      refine ⟨_, rfl, _, rfl, x1, d9, _, t, rfl, e9, ty, nf, x1, y, r, rfl, k19, .inr ⟨t, ty, kt, _, rfl, _, rfl, iteF ?_⟩⟩
      exact ⟨_, rfl, s9⟩
    · rintro sg H9 ⟨v9, rfl, s9⟩
      have se9 := se.trans s9
      have tb9 := tb.keep (s8z.trans se9)
      have hq19 := se9 _ _ hq18
      have hq29 := se9 _ _ hq28
      have k19 := same_kat se9 k18
      have k29 := same_kat se9 k28
      refine ⟨_, rfl, _, rfl, _, rfl, _, rfl, q1, l1, l2, l3, r, _, _, _, rfl, SqL.of hq19, okr, tb9.h1, tb9.h2, tb9.h3, tb9.o1, tb9.o2, tb9.o3, fun HA sA1 => ⟨_, rfl, iteF ?_⟩⟩
      have tbA := tb9.keep sA1
      refine ⟨_, rfl, _, rfl, _, rfl, _, rfl, x1, q1, l1, l2, r, _, _, rfl, same_kat sA1 k19, SqL.of (sA1 _ _ hq19), okr, kwr, tbA.h1, tbA.h2, tbA.o1, tbA.o2, fun HB sB1 => ⟨_, rfl, iteF ?_⟩⟩
      have sAB := sA1.trans sB1
      refine ⟨_, rfl, _, rfl, _, rfl, _, rfl, x1, q1, x2, q2, r, q, rfl, same_kat sAB k19, same_kat sAB k29, x21, SqL.of (sAB _ _ hq19), SqL.of (sAB _ _ hq29), okr, kwr, okq, kwq, fun HC sC1 => ⟨_, rfl, iteF ?_⟩⟩
      exact ⟨_, _, _, _, _, _, _, _, _, _, rfl, S2.out (s8z.trans (se9.trans sAB)) sC1 nx1z nx2z⟩
  · rintro sg H1 ⟨v4, v5, v6, v7, v8, v9, v10, v11, v12, v13, rfl, s1⟩
    have ok7 : KOk ⟨7, none, none⟩ := ⟨⟨by decide, by decide +kernel⟩, (fun i e => by cases e), fun z e => by cases e⟩
    have kw7 : KW ⟨7, none, none⟩ := fun z e => by cases e
    have ok8 : KOk ⟨7, some 0, none⟩ := ⟨⟨by decide, by decide +kernel⟩, (fun i e => by cases e; exact ⟨by decide, by decide +kernel⟩), fun z e => by cases e⟩
    have kw8 : KW ⟨7, some 0, none⟩ := fun z e => by cases e
    refine ⟨rfl, fun x dx nx ndx nex => ?_⟩
    have sx : Same H1 (upd (upd H1 dx (.own x)) x (.ins C dx [])) := same_new' (same_new ndx) (by rw [upd_ne (Ne.symm nex)]; exact nx)
    refine ⟨x, dx, .int 7, .non, .non, H1, rfl, upd_same, sx, nx, .inl ⟨⟨7, none, none⟩, rfl, rfl, rfl, ok7, fun H2 k2 kp => ⟨rfl, ?_⟩⟩⟩
    refine ⟨_, rfl, by show 3 ≤ sizeLine; decide, fun q nq => ?_⟩
    have s3 := same_new (o := .lst [.int 7, .non, .non]) nq
    refine ⟨x, q, ⟨7, none, none⟩, rfl, same_kat s3 k2, SqL.of upd_same, ok7, kw7, fun H3 s4 => ⟨_, rfl, iteT ?_⟩⟩
    have k3 := same_kat (s3.trans s4) k2
    obtain ⟨d3, e3⟩ := id k3
    refine ⟨_, rfl, x, d3, _, rfl, e3, get_no _ _ _ (by decide +kernel) (by decide +kernel) (by decide +kernel), x, _, .str "age", .int 0, rfl, k3, .inr (.inl ⟨rfl, .inl ⟨some 0, rfl, ok8.a, fun H4 k4 kp4 => ?_⟩⟩)⟩
    refine ⟨rfl, _, rfl, iteT ?_⟩
    refine ⟨_, rfl, by show 3 ≤ sizeLine; decide, fun q5 nq5 => ?_⟩
    have s5 := same_new (o := .lst [.int 7, .int 0, .non]) nq5
    exact ⟨x, q5, ⟨7, some 0, none⟩, rfl, same_kat s5 k4, SqL.of upd_same, ok8, kw8, fun H6 _ => k H6⟩
end

end K11

namespace K11
open PySem PySem.Spec PyProof.Rows L2 Jg
local macro_rules | `(tactic| walk_at "rd1") => `(tactic| (first
  | refine ⟨_, rfl, ?_⟩
  | refine ⟨_, _, rfl, rfl, ?_⟩
  | refine ⟨_, _, rfl, ?_⟩
  | refine ⟨rfl, ?_⟩
  | (refine ⟨show (0 : Int) < _ by omega, ?_⟩)
  | (refine ⟨Or.inl ⟨by omega, by omega⟩, ?_⟩)
  | (refine ⟨Or.inr ⟨by omega, by omega⟩, ?_⟩)
  | (refine ⟨(⟨by decide, by decide, by decide⟩ : CPow _ _), ?_⟩)
  | refine Or.inl ⟨_, rfl, ?_⟩
  | refine Or.inr ⟨_, rfl, ?_⟩
  | fail "rd"))
local macro_rules | `(tactic| walk_at "rd") => `(tactic| repeat' walk_at "rd1")


theorem Txt.of {K : PySem.W.Frag} {h : Heap} {mg : Str → Option Value} {C : Addr} (X : K.In h) (G : h.Ns mainGlobals mg)
    (aC : PySem.W.nsIn K mainGlobals "Kind" = some (some (.ref C)))
    (pg : PySem.W.plainGet K C Str.empty = true) (hd : PySem.W.hasDictIn K C = true) (po : PySem.W.plainOver K C = true) (sa : PySem.W.findIn K (.ref C) "__setattr__" = some (some (.builtin "object.__setattr__")))
    (ng : PySem.W.findIn K (.ref C) "_gap" = some none) (na : PySem.W.findIn K (.ref C) "_age" = some none) (ns : PySem.W.findIn K (.ref C) "_source" = some none)
    (aL : ∃ u, mg "LONGEST" = some u ∧ L2.RelV (.int 1000000000000000000000000000000) u)
    (b1 : PySem.W.nsIn K mainGlobals "isinstance" = some none) (b2 : PySem.W.nsIn K mainGlobals "int" = some none) (b3 : PySem.W.nsIn K mainGlobals "bool" = some none) (b4 : PySem.W.nsIn K mainGlobals "str" = some none)
    (b5 : PySem.W.nsIn K mainGlobals "tuple" = some none) (b6 : PySem.W.nsIn K mainGlobals "len" = some none) (b7 : PySem.W.nsIn K mainGlobals "max" = some none) (b8 : PySem.W.nsIn K mainGlobals "min" = some none)
    (b9 : PySem.W.nsIn K mainGlobals "range" = some none) (b10 : PySem.W.nsIn K mainGlobals "repr" = some none)
    (c1 : PySem.W.findIn K (.ref C) "__class__" = some (some (.builtin "object.__class__"))) (c2 : PySem.W.specialIn K (.builtin "object.__class__") "__get__" = some (some (.builtin "getset_descriptor.__get__"))) (c3 : PySem.W.takesIn K (.builtin "object.__class__") = some true)
    (c4 : PySem.W.mroIn K C (.type "object") = some true) (c5 : PySem.W.findIn K (.ref C) "__ne__" = some (some (.builtin "object.__ne__")))
    (k1 : PySem.W.kitOne K (.ref C) (.ref C) = some true) (k2 : PySem.W.kitOne K (.type "NoneType") (.ref C) = some false) (k3 : PySem.W.kitOne K (.type "int") (.ref C) = some false)
    (k4 : PySem.W.kitOne K (.type "str") (.ref C) = some false) (k5 : PySem.W.kitOne K (.type "list") (.ref C) = some false) (k6 : PySem.W.kitOne K (.type "tuple") (.ref C) = some false) (k7 : PySem.W.kitOne K (.type "dict") (.ref C) = some false)
    (n1 : PySem.W.notFirst K C (.ref C) = true) (n2 : PySem.W.notFirst K C (.type "NoneType") = true) (n3 : PySem.W.notFirst K C (.type "int") = true) (n4 : PySem.W.notFirst K C (.type "str") = true) (n5 : PySem.W.notFirst K C (.type "list") = true) (n6 : PySem.W.notFirst K C (.type "tuple") = true) (n7 : PySem.W.notFirst K C (.type "dict") = true) : Txt K mg C :=
  have n {x : Str} (z : PySem.W.nsIn K mainGlobals x = some none) : mg x = none := PySem.W.mg_none_of X G z
  ⟨⟨pg, hd, po, sa⟩, ng, na, ns, PySem.W.mg_of X G aC, by rw [L_eq]; exact aL, n b1, n b2, n b3, n b4, n b5, n b6, n b7, n b8, n b9, n b10, c1, c2, c3, c4, c5, k1, k2, k3, k4, k5, k6, k7, n1, n2, n3, n4, n5, n6, n7⟩
theorem ExnQ.of {K : PySem.W.Frag} {h : Heap} {mg : Str → Option Value} {x : Str} {CI : Addr} {qual : Str} {st : Stmt} {f : Str} {B nid iid : String} {line : List Value} {fI : Addr} {oc : Value} {od an : Option Addr} {osl : Array (Option Value)} {kV doc pm cdv ct : Value}
    (X : K.In h) (G : h.Ns mainGlobals mg) (fB : ExcBaseFacts B nid iid line) (sB : StoreFacts B line "object.__setattr__" "object") (aI : PySem.W.nsIn K mainGlobals x = some (some (.ref CI))) (xI : PySem.W.excInitIn K CI line nid = true) (xO : PySem.W.excOver K CI line = true)
    (sa : PySem.W.findIn K (.ref CI) "__setattr__" = some (some (.builtin "object.__setattr__"))) (exC : PySem.W.subIn K (.ref CI) (.type "BaseException") = some true) (tyC : PySem.W.typeIn K (.ref CI) = some (.type "type")) (kC : PySem.W.keepIn K (.ref CI) = true)
    (ga : PySem.W.findIn K (.ref CI) "__getattribute__" = some (some (.builtin "BaseException.__getattribute__"))) (gg : PySem.W.findIn K (.ref CI) "__getattr__" = some none) (hdC : PySem.W.hasDictIn K CI = true)
    (ha : PySem.W.findIn K (.ref CI) "__class__" = some (some (.builtin "object.__class__"))) (hn : PySem.W.specialIn K (.builtin "object.__class__") "__get__" = some (some (.builtin "getset_descriptor.__get__"))) (ht : PySem.W.takesIn K (.builtin "object.__class__") = some true) (hm : PySem.W.mroIn K CI (.type "object") = some true)
    (no : PySem.W.findIn K (.ref CI) f = some none) (iI : PySem.W.findIn K (.ref CI) "__init__" = some (some (.ref fI))) (tI : PySem.W.typeIn K (.ref fI) = some (.type "function"))
    (l : K.lookup fI = some ⟨oc, od, .func (PySem.W.fnOf "__init__" qual (defArgs st) (defBody st) (defScope st) .none kV doc pm an cdv ct), osl⟩) (c : PySem.W.codeIn K cdv qual = true) (k : PySem.W.keepIn K (.ref fI) = true)
    (sC : PySem.W.subIn K (.ref CI) (.ref CI) = some true) : ExnQ K mg x CI qual st f :=
  ⟨PySem.W.mg_of X G aI, ⟨B, nid, iid, line, fB, sB, xI, xO, hdC, sa, exC, tyC, kC⟩, ⟨⟨ga, gg, exC, hdC⟩, ha, hn, ht, hm⟩, no, ⟨fI, _, fun_mk l c k, iI, tI⟩, PySem.W.exm_ref exC hdC tyC sC⟩
theorem Tst.of {K : PySem.W.Frag} {h : Heap} {mg : Str → Option Value} {CI CU CG CM CE : Addr} (X : K.In h) (G : h.Ns mainGlobals mg) (aG : PySem.W.nsIn K mainGlobals "GapError" = some (some (.ref CG))) (aM : PySem.W.nsIn K mainGlobals "InvalidMoment" = some (some (.ref CM))) (aE : PySem.W.nsIn K mainGlobals "UnknownEdition" = some (some (.ref CE)))
    (aL : PySem.W.nsIn K mainGlobals "LookupError" = some none) (kG : PySem.W.kitOne K (.ref CI) (.ref CG) = some true) (kM : PySem.W.kitOne K (.ref CI) (.ref CM) = some false) (kL : PySem.W.kitOne K (.ref CU) (.type "LookupError") = some true) (kE : PySem.W.kitOne K (.ref CU) (.ref CE) = some false)
    (hdU : PySem.W.hasDictIn K CI = true) (tyI : PySem.W.typeIn K (.ref CI) = some (.type "type")) (exI : PySem.W.subIn K (.ref CI) (.type "BaseException") = some true) (sUI : PySem.W.subIn K (.ref CU) (.ref CI) = some false) : Tst K mg CI CU CG CM CE :=
  ⟨PySem.W.mg_of X G aG, PySem.W.mg_of X G aM, PySem.W.mg_of X G aE, PySem.W.mg_none_of X G aL, kG, kM, kL, kE, PySem.W.exm_ref exI hdU tyI sUI⟩
abbrev kws2 : List (Str × V) := [("age", .non), ("source", .non)]
theorem Ini.of {K : PySem.W.Frag} {C D : Addr} {qual : Str} {st : Stmt} {f : Addr} {oc : Value} {od an : Option Addr} {osl : Array (Option Value)} {doc pm cdv ct : Value}
    (a : PySem.W.findIn K (.ref C) "__init__" = some (some (.ref f))) (i : PySem.W.isFn K (.ref f) = true) (l : K.lookup f = some ⟨oc, od, .func (PySem.W.fnOf "__init__" qual (defArgs st) (defBody st) (defScope st) .none (.ref D) doc pm an cdv ct), osl⟩)
    (c : PySem.W.codeIn K cdv qual = true) (k : PySem.W.keepIn K (.ref f) = true) (d1 : PySem.W.nsIn K D "age" = some (some .none)) (d2 : PySem.W.nsIn K D "source" = some (some .none)) : IniK K C qual st kws2 :=
  IniK.of a i l c k (.inr ⟨D, rfl, fun q hq => by
    simp only [kws2, List.mem_cons, List.not_mem_nil, or_false] at hq
    rcases hq with rfl | rfl
    · exact ⟨.none, d1, rfl⟩
    · exact ⟨.none, d2, rfl⟩⟩)
theorem len_kinit {K : PySem.W.Frag} {C CI : Addr} : ∀ vs H Q E, spKInit K C CI vs H Q E → vs.length = ["self", "gap", "age", "source"].length := fun vs H Q E h => by
  obtain ⟨x, dx, u, v, s, H0, rfl, _⟩ := h; rfl
theorem mak3 {P : Program} {w : World} {K : PySem.W.Frag} {mg : Str → Option Value} {base : Heap} {C CI : Addr} (D : IniK K C "Kind.__init__" s_Kind_init kws2) (m : mg "Kind" = some (.ref C)) (mk : PySem.W.makesIn K C = true) (kp : PySem.W.keepIn K (.ref C) = true)
    (body : ∀ f, BodyX P w K mg base ["self", "gap", "age", "source"] "Kind.__init__" s_Kind_init f 4 (spKInit K C CI)) : MakW P w K mg base (L2.CX P w) 5 "Kind" C ["gap", "age", "source"] g3 (spKInit K C CI) :=
  D.mak m mk kp sc_Kind_init len_kinit [] (fun us mv ws => us ++ ws) (fun z => nomatch z) (fun q hq => nomatch hq) (fun r1 _ r3 => r1.append r3)
    (fun D doc pm an cdv ct us mv ws h1 h2 h3 => match us, mv, ws, h1, h2, h3 with | [_], [], [_, _, _], _, _, _ => rfl) body
theorem mak1 {P : Program} {w : World} {K : PySem.W.Frag} {mg : Str → Option Value} {base : Heap} {C CI : Addr} (D : IniK K C "Kind.__init__" s_Kind_init kws2) (m : mg "Kind" = some (.ref C)) (mk : PySem.W.makesIn K C = true) (kp : PySem.W.keepIn K (.ref C) = true)
    (body : ∀ f, BodyX P w K mg base ["self", "gap", "age", "source"] "Kind.__init__" s_Kind_init f 4 (spKInit K C CI)) : MakW P w K mg base (L2.CX P w) 5 "Kind" C ["gap"] g1 (spKInit K C CI) :=
  D.mak m mk kp sc_Kind_init len_kinit kws2 (fun us mv ws => us ++ ws ++ mv) (fun z => nomatch z) (fun q hq => hq) (fun r1 r2 r3 => (r1.append r3).append r2)
    (fun D doc pm an cdv ct us mv ws h1 h2 h3 => match us, mv, ws, h1, h2, h3 with | [_], [_, _], [_], _, _, _ => ⟨_, _, _, _, _, _, rfl, rfl, _, _, _, _, _, _, rfl, rfl, rfl⟩) body
theorem fin {P : Program} {w : World} {K : PySem.W.Frag} {mg : Str → Option Value} {fa C CI CU CG CM CE : Addr} (hfa : mg "law" = some (.ref fa)) (T : Txt K mg C) (mk1 : PySem.W.makesIn K C = true) (mk2 : PySem.W.keepIn K (.ref C) = true)
    (I : ExnQ K mg "InvalidKind" CI "InvalidKind.__init__" s_InvalidKind_init "value") (U : ExnQ K mg "UnknownName" CU "UnknownName.__init__" s_UnknownName_init "name") (S : Tst K mg CI CU CG CM CE) (N : IniK K C "Kind.__init__" s_Kind_init kws2)
    (d1 : DefK K mg "is_integer" s_is_integer) (d2 : DefK K mg "is_between" s_is_between) (d3 : DefK K mg "is_word" s_is_word) (d4 : DefK K mg "_checked_gap" s_checked_gap) (d5 : DefK K mg "_checked_age" s_checked_age) (d6 : DefK K mg "_checked_source" s_checked_source)
    (d7 : MetK K C "change" "Kind.change" s_Kind_change) (d8 : MetK K C "__eq__" "Kind.__eq__" s_Kind_eq) (d9 : PrpK K C "gap" "Kind.gap" s_Kind_gap) (d10 : PrpK K C "age" "Kind.age" s_Kind_age) (d11 : PrpK K C "source" "Kind.source" s_Kind_source)
    (d12 : DefK K mg "_law_stream" s_law_stream) (d13 : DefK K mg "_law_draw" s_law_draw) (d14 : DefK K mg "_law_choose" s_law_choose) (d15 : DefK K mg "_law_words" s_law_words) (d16 : DefK K mg "_law_number" s_law_number) (d17 : DefK K mg "_law_part" s_law_part) (d18 : DefK K mg "_law_kind" s_law_kind)
    (d19 : DefK K mg "_law_is" s_law_is) (d20 : DefK K mg "_law_refused" s_law_refused) (d21 : DefK K mg "_law_odd_made" s_law_odd_made) (d22 : DefK K mg "_law_odd_set" s_law_odd_set) (d23 : DefK K mg "_law_changed" s_law_changed) (d24 : DefK K mg "law" s_law) :
    ∃ fd : FuncData, (∀ (s : Shared) (v : Value), BindsTo s fd ⟨[v], []⟩ [("script", v)]) ∧ ∀ base : Heap, K.In base → base.Ns mainGlobals mg → FnG P w K mg base CX0 11 fa fd ["script"] (spLaw K) := by
  obtain ⟨f, fd, F, m⟩ := d24.ex
  rw [hfa] at m
  cases m
  refine ⟨fd, ?_, fun base _ _ => ?_⟩
  · obtain ⟨_, _, _, _, _, _, _, _, _, rfl, _, _⟩ := F.ex
    exact fun s v => .of_eq rfl
  · have g1 := ok_is_integer (P := P) (w := w) (base := base) d1 T
    have g2 := ok_is_between (P := P) (w := w) (base := base) d2 T g1
    have g3' := ok_is_word (P := P) (w := w) (base := base) d3 T
    have xI := ok_kinit (P := P) (w := w) (base := base) I
    have xU := ok_uinit (P := P) (w := w) (base := base) U
    have g4 := ok_cg (P := P) (w := w) (base := base) d4 T g2 xI
    have g5 := ok_ca (P := P) (w := w) (base := base) d5 T g2 xI
    have g6 := ok_cs (P := P) (w := w) (base := base) d6 T g3' xI
    have M3 := mak3 (P := P) (w := w) (base := base) (CI := CI) N T.cKind mk1 mk2 (body_kinit T g4 g5 g6)
    have M1 := mak1 (P := P) (w := w) (base := base) (CI := CI) N T.cKind mk1 mk2 (body_kinit T g4 g5 g6)
    have g7 := ok_change (P := P) (w := w) (base := base) d7 T g4 g5 xU
    have g8 := ok_eq (P := P) (w := w) (base := base) d8 T
    have g9 := ok_gap (P := P) (w := w) (base := base) d9 T
    have g10 := ok_age (P := P) (w := w) (base := base) d10 T
    have g11 := ok_source (P := P) (w := w) (base := base) d11 T
    have g12 := ok_stream (P := P) (w := w) (base := base) d12 T
    have g13 := ok_draw (P := P) (w := w) (base := base) d13
    have g14 := ok_choose (P := P) (w := w) (base := base) d14 T g13
    have g15 := ok_words (P := P) (w := w) (base := base) d15 T g13 g14
    have g16 := ok_number (P := P) (w := w) (base := base) d16 T g13
    have g17 := ok_part (P := P) (w := w) (base := base) d17 T g13 g14 g16
    have g18 := ok_kind (P := P) (w := w) (base := base) d18 T M3
    have g19 := ok_is (P := P) (w := w) (base := base) d19 T g9 g10 g11
    have g20 := ok_refused (P := P) (w := w) (base := base) d20 T I U S g18 g7
    have g21 := ok_odd_made (P := P) (w := w) (base := base) d21 T g20
    have g22 := ok_odd_set (P := P) (w := w) (base := base) d22 T g20 g19
    have g23 := ok_changed (P := P) (w := w) (base := base) d23 T g7 g19 g8
    exact fnG_of F sc_law (fun vs H Q E h => by obtain ⟨a, ns, rfl, _⟩ := h; rfl) fun cdv A outer s H vs Q E g hr h =>
      let ⟨t, a, q⟩ := body_law T M1 g8 g7 g12 g15 g17 g18 g19 g21 g22 g23 fa cdv A outer s H vs Q E (guards_deeper g) hr h
      ⟨t, a.nox, q⟩
theorem walk {l : PySem.W.OpenLaw} {q : Program} {loose : List Str} {XP : (Str → Option Value) → Heap → Prop} {YP : World → Heap → Prop} {d : DefRec} {K : Params → PySem.W.Frag} (hn : l.most = some 63) (hdf : d.params.defaults = [])
    (hY : ∀ (w : World) (h : Heap), YP w h → (K w.params).In h)
    (F : ∀ (w : World) (mg : Str → Option Value) (fa : Addr) (h : Heap), (K w.params).In h → h.Ns mainGlobals mg → mg d.name = some (.ref fa) → XP mg h →
      ∃ fd : FuncData, (∀ (s : Shared) (u : Value), BindsTo s fd ⟨[u], []⟩ [("script", u)]) ∧ ∀ base : Heap, (K w.params).In base → base.Ns mainGlobals mg → FnG l.prog w (K w.params) mg base CX0 11 fa fd ["script"] (spLaw (K w.params))) :
    PySem.W.WalkO q loose XP YP l.row.toRowW d [] (fun f vs => PySem.call f vs) :=
  walk_ofG (n := 63) (k := 11) (x := "script") (CX := fun _ => CX0) (sp := fun w => spLaw (K w.params)) hn (by decide) hdf ⟨rfl, by decide, by decide⟩ hY F (fun _ _ a ns hl _ hS => ⟨a, ns, rfl, hS, hl, fun _ => rfl⟩) fun _ _ _ _ _ z => z
end K11
open PySem PySem.W PyProof.Rows
local macro_rules | `(tactic| walk_at "dk") => `(tactic| (refine' Jg.DefK.of (by assumption) (by assumption) ?a ?l ?c ?k; (case a => k_is); (case l => k_is); (case c => k_is); (case k => k_is)))
local macro_rules | `(tactic| walk_at "mk") => `(tactic| (refine' Jg.MetK.of ?a ?i ?l ?c ?k; (case a => k_is); (case i => k_is); (case l => k_is); (case c => k_is); (case k => k_is)))
local macro_rules | `(tactic| walk_at "pk") => `(tactic| (refine' Jg.PrpK.of ?a ?g ?tk ?rc ?l ?c ?k; (case a => k_is); (case g => k_is); (case tk => k_is); (case rc => k_is); (case l => k_is); (case c => k_is); (case k => k_is)))
local macro_rules | `(tactic| walk_at "ck") => `(tactic| (refine' Jg.CmtK.of ?rd ?ga ?a ?rc ?fi ?l ?c ?k; (case rd => k_is); (case ga => k_is); (case a => k_is); (case rc => k_is); (case fi => k_is); (case l => k_is); (case c => k_is); (case k => k_is)))
set_option maxRecDepth 100000 in
set_option maxHeartbeats 0 in
theorem PySem.Challenge.cw_gaplesskeys_k11_kinds_made_holds : PySem.Challenge.rw_gaplesskeys_k11_kinds_made.Holds := by
  w_on; o_law; k_head; (case hw => w_witness2)
  k_fill
  refine K11.walk (l := PySem.Challenge.rw_gaplesskeys_k11_kinds_made) rfl rfl (fun w h Y => PySem.W.kIn_of Y) ?F
  case F =>
    intro w mg fa h KX G hmg XP
    refine' K11.fin hmg ?T ?mk1 ?mk2 ?I ?U ?S ?NN ?d1 ?d2 ?d3 ?d4 ?d5 ?d6 ?d7 ?d8 ?d9 ?d10 ?d11 ?d12 ?d13 ?d14 ?d15 ?d16 ?d17 ?d18 ?d19 ?d20 ?d21 ?d22 ?d23 ?d24
    case T =>
      refine' K11.Txt.of KX G ?aC ?pg ?hd ?po ?sa ?ng ?na ?ns ?aL ?b1 ?b2 ?b3 ?b4 ?b5 ?b6 ?b7 ?b8 ?b9 ?b10 ?c1 ?c2 ?c3 ?c4 ?c5 ?k1 ?k2 ?k3 ?k4 ?k5 ?k6 ?k7 ?n1 ?n2 ?n3 ?n4 ?n5 ?n6 ?n7
      case aC => k_is
      case aL => exact Jg.loose_int XP (List.Mem.head _)
      all_goals (first | k_is | kit_is)
    (case mk1 => k_is); (case mk2 => k_is)
    case I =>
      refine' K11.ExnQ.of KX G PySem.F.excBase_ValueError PySem.F.store_ValueError ?XaI ?XxI ?XxO ?Xsa ?XexC ?XtyC ?XkC ?Xga ?Xgg ?XhdC ?Xha ?Xhn ?Xht ?Xhm ?Xno ?XiI ?XtI ?Xl ?Xc ?Xk ?XsC
      (case XaI => k_is); (case XxI => first | decide +kernel | rfl); (case XxO => first | decide +kernel | rfl); (case Xsa => k_is); (case XexC => k_is); (case XtyC => k_is); (case XkC => k_is); (case Xga => k_is); (case Xgg => k_is); (case XhdC => k_is); (case Xha => k_is); (case Xhn => k_is); (case Xht => k_is); (case Xhm => k_is)
      (case Xno => k_is); (case XiI => k_is); (case XtI => k_is); (case Xl => k_is); (case Xc => k_is); (case Xk => k_is); (case XsC => first | rfl | k_is)
    case U =>
      refine' K11.ExnQ.of KX G PySem.F.excBase_LookupError PySem.F.store_LookupError ?ZaI ?ZxI ?ZxO ?Zsa ?ZexC ?ZtyC ?ZkC ?Zga ?Zgg ?ZhdC ?Zha ?Zhn ?Zht ?Zhm ?Zno ?ZiI ?ZtI ?Zl ?Zc ?Zk ?ZsC
      (case ZaI => k_is); (case ZxI => first | decide +kernel | rfl); (case ZxO => first | decide +kernel | rfl); (case Zsa => k_is); (case ZexC => k_is); (case ZtyC => k_is); (case ZkC => k_is); (case Zga => k_is); (case Zgg => k_is); (case ZhdC => k_is); (case Zha => k_is); (case Zhn => k_is); (case Zht => k_is); (case Zhm => k_is)
      (case Zno => k_is); (case ZiI => k_is); (case ZtI => k_is); (case Zl => k_is); (case Zc => k_is); (case Zk => k_is); (case ZsC => first | rfl | k_is)
    case S =>
      refine' K11.Tst.of KX G ?YaG ?YaM ?YaE ?YaL ?YkG ?YkM ?YkL ?YkE ?YhU ?YtI ?YeI ?YsU
      (case YaG => k_is); (case YaM => k_is); (case YaE => k_is); (case YaL => k_is)
      all_goals (first | k_is | kit_is | rfl)
    case NN =>
      refine' K11.Ini.of ?Na ?Ni ?Nl ?Nc ?Nk ?Nd1 ?Nd2
      (case Na => k_is); (case Ni => k_is); (case Nl => k_is); (case Nc => k_is); (case Nk => k_is); (case Nd1 => k_is); (case Nd2 => k_is)
    (case d1 => walk_at "dk")
    (case d2 => walk_at "dk")
    (case d3 => walk_at "dk")
    (case d4 => walk_at "dk")
    (case d5 => walk_at "dk")
    (case d6 => walk_at "dk")
    (case d7 => walk_at "mk")
    (case d8 => walk_at "mk")
    (case d9 => walk_at "pk")
    (case d10 => walk_at "pk")
    (case d11 => walk_at "pk")
    (case d12 => walk_at "dk")
    (case d13 => walk_at "dk")
    (case d14 => walk_at "dk")
    (case d15 => walk_at "dk")
    (case d16 => walk_at "dk")
    (case d17 => walk_at "dk")
    (case d18 => walk_at "dk")
    (case d19 => walk_at "dk")
    (case d20 => walk_at "dk")
    (case d21 => walk_at "dk")
    (case d22 => walk_at "dk")
    (case d23 => walk_at "dk")
    (case d24 => walk_at "dk")
#print axioms PySem.Challenge.cw_gaplesskeys_k11_kinds_made_holds

