import PyProof.Rows.All
import Wide.All
import OpenK.AllK
import Wide.FinOn
import HandS.ForMost
import HandS.IsInst
import HandS.ClsMeth
import HandS.Property
import HandS.Strs
import HandS.Wide
import PyProof.LongRange
import HandS.Exc
import PyProof.Rows.NestShow
import HandS.SetFor
import HandS.ExcInit
import HandS.ExcField
import HandS.ExcOwn
import HandS.WordsExc
import KE.KExcIs
import HandS.Small
import PyProof.Rows.Range3
import KE.KExcInit
import HandS.MakeKwOnly
import PyProof.ExcBaseAll.LookupError
import PyProof.ExcBaseAll.ValueError
import PyProof.ExcBaseAll.OverflowError
import PyProof.ExcBaseAll.RuntimeError
import PyProof.InstEq
import PyProof.EqKinds
import KE.KEqDict
import PyProof.CallStr
import HandS.More
import HandS.Replace
import HandS.Text
import PyProof.ListStr
import PyProof.StrOps2
import HandS.Style
import HandS.ExcIs
import HandS.Codes
import HandS.FStr
import HandS.StrSplit
import HandS.Steps
import HandS.StrMore
import KE.RegKIsAll
import PySem.Challenge.RW_gaplesskeys_k04_ranges_moved_and_written
set_option Elab.async false
set_option linter.all false
set_option maxRecDepth 100000
set_option maxHeartbeats 4000000
/-! own rules: own operators, long ranges, a class held by a local name, a classmethod without arguments -/
namespace Jg
open PySem PySem.Spec PyProof.Rows L2

section
variable {X : Cx} {CX : CXT} {n k : Nat} {C f : Addr} {fd : FuncData} {ps : List Str} {sp : Sp} {E : XK} {dvs : List V} {ds : List Value}
/-- what an own method must be to serve an operator -/
structure Own (K : PySem.W.Frag) (C : Addr) (m : Str) (f : Addr) : Prop where
  at_ : PySem.W.findIn K (.ref C) m = some (some (.ref f))
  fn : PySem.W.isFn K (.ref f) = true
theorem back_of {pins : List (Addr × Obj)} {σ : L2.St} {Q : VK} {v : Value} {s : Shared} (h : EP X pins σ Q v s) : PySem.W.CmpBack (EP X pins σ Q) v s := by
  obtain ⟨x, H', I, r, q⟩ := h
  cases v <;> first
    | exact ⟨x, H', I, r, q⟩
    | (exfalso; cases x <;> simp [L2.RelV] at r)
/-- x == y, x < y .. by the own method of x -/
def rOwn (K : PySem.W.Frag) (C : Addr) (sp : Sp) (E : XK) : R2 := fun x y H Q => ∃ a dx fs t, x = .ref a ∧ H a = some (.ins C dx fs) ∧ TyX K H y t ∧ PySem.W.notFirst K C t = true ∧ sp [.ref a, y] H Q E
theorem op_own {op : CmpOp} (F : FnOk X.prog X.w X.K X.mg X.base CX n f fd ps sp) (hr : Room n X.A) (o : Own X.K C (cmpInfo op).2.1 f) (hb : Binds X.K fd ps []) (hx : Passes CX X E)
    (hc : ∀ v u, compareOp op v u = richCompare op v u := by intro _ _; rfl) : OpR X (compareOp op) (rOwn X.K C sp E) := by
  intro pins s σ H x y v u Q I rx ry h
  obtain ⟨a, dx, fs, t, rfl, ha, ty, nf, q⟩ := h
  cases rx
  obtain ⟨mA, J, _⟩ := ins_get I.hok ha
  obtain ⟨od, J, _⟩ := J.look
  obtain ⟨m, hF⟩ := I.fr
  obtain ⟨P, Z, p, _⟩ := kit_of I ry ty
  rw [hc]
  refine PySem.W.cmp_K (op := op) (tb := t) hr.units0 hF I.ok.mod.kin J (Z.ty _ _ I.kIn p) nf o.at_ o.fn ?_
  exact wpAny_mono (run_fn (us := [.ref a, u]) (vs := [.ref a, y]) F hr hb .nil hx I (.cons rfl (.cons ry .nil)) q) (fun _ _ z => back_of z) fun _ _ z => z
/-- x & y, x + y .. of two instances of the class -/
def rOwnB (C : Addr) (sp : Sp) (E : XK) : R2 := fun x y H Q => ∃ a b dx fs dy gs, x = .ref a ∧ y = .ref b ∧ H a = some (.ins C dx fs) ∧ H b = some (.ins C dy gs) ∧ sp [.ref a, .ref b] H Q E
theorem op_ownB {op : Operator} (F : FnOk X.prog X.w X.K X.mg X.base CX n f fd ps sp) (hr : Room n X.A) (o : Own X.K C (PySem.dunder op.info.2) f) (hc : PySem.W.selfFirst X.K C = true) (hb : Binds X.K fd ps []) (hx : Passes CX X E) :
    OpR X (binaryOp op) (rOwnB C sp E) := by
  intro pins s σ H x y v u Q I rx ry h
  obtain ⟨a, b, dx, fs, dy, gs, rfl, rfl, ha, hb', q⟩ := h
  cases rx
  cases ry
  obtain ⟨mA, J, _⟩ := ins_get I.hok ha
  obtain ⟨od, J, _⟩ := J.look
  obtain ⟨mB, J', _⟩ := ins_get I.hok hb'
  obtain ⟨od', J', _⟩ := J'.look
  obtain ⟨m, hF⟩ := I.fr
  refine PySem.W.binop_K (op := op) hF I.ok.mod.kin J J'.type hc o.at_ o.fn ?_
  exact wpAny_mono (run_fn (us := [.ref a, .ref b]) (vs := [.ref a, .ref b]) F hr hb .nil hx I (.cons rfl (.cons rfl .nil)) q) (fun _ _ z => back_of z) fun _ _ z => z
/-- y in x by the own method of x -/
def rOwnIn (C : Addr) (sp : Sp) (E : XK) : R2 := fun y x H Q => ∃ a dx fs, x = .ref a ∧ H a = some (.ins C dx fs) ∧ sp [.ref a, y] H (fun v H' => ∃ b, v = .bl b ∧ Q (.bl b) H') E
def rOwnNotIn (C : Addr) (sp : Sp) (E : XK) : R2 := fun y x H Q => ∃ a dx fs, x = .ref a ∧ H a = some (.ins C dx fs) ∧ sp [.ref a, y] H (fun v H' => ∃ b, v = .bl b ∧ Q (.bl (!b)) H') E
theorem op_ownIn (F : FnOk X.prog X.w X.K X.mg X.base CX n f fd ps sp) (hr : Room n X.A) (o : Own X.K C "__contains__" f) (hb : Binds X.K fd ps []) (hx : Passes CX X E) :
    OpR X (compareOp .In) (rOwnIn C sp E) := by
  intro pins s σ H y x u v Q I ry rx h
  obtain ⟨a, dx, fs, rfl, ha, q⟩ := h
  cases rx
  obtain ⟨mA, J, _⟩ := ins_get I.hok ha
  obtain ⟨od, J, _⟩ := J.look
  obtain ⟨m, hF⟩ := I.fr
  refine PySem.W.in_K hF I.ok.mod.kin J o.at_ o.fn ?_
  refine wpAny_mono (run_fn (us := [.ref a, u]) (vs := [.ref a, y]) F hr hb .nil hx I (.cons rfl (.cons ry .nil)) q) (fun r s' z => ?_) fun _ _ z => z
  obtain ⟨w', H', I', rw', b, rfl, q'⟩ := z
  cases (show r = Value.bool b from rw')
  exact wpAny_truthy_bool ⟨.bl _, H', I', rfl, q'⟩
theorem op_ownNotIn (F : FnOk X.prog X.w X.K X.mg X.base CX n f fd ps sp) (hr : Room n X.A) (o : Own X.K C "__contains__" f) (hb : Binds X.K fd ps []) (hx : Passes CX X E) :
    OpR X (compareOp .NotIn) (rOwnNotIn C sp E) := by
  intro pins s σ H y x u v Q I ry rx h
  obtain ⟨a, dx, fs, rfl, ha, q⟩ := h
  cases rx
  obtain ⟨mA, J, _⟩ := ins_get I.hok ha
  obtain ⟨od, J, _⟩ := J.look
  obtain ⟨m, hF⟩ := I.fr
  refine PySem.W.notIn_K hF I.ok.mod.kin J o.at_ o.fn ?_
  refine wpAny_mono (run_fn (us := [.ref a, u]) (vs := [.ref a, y]) F hr hb .nil hx I (.cons rfl (.cons ry .nil)) q) (fun r s' z => ?_) fun _ _ z => z
  obtain ⟨w', H', I', rw', b, rfl, q'⟩ := z
  cases (show r = Value.bool b from rw')
  exact wpAny_truthy_bool ⟨.bl _, H', I', rfl, q'⟩
end

/-! ### cls(e, ..), cls a local name that holds the class -/
def tMakeL (i : Nat) (C : Addr) (sp : Sp) (dvs : List V) (E : XK) (t : TA) : TE := fun σ H Q => σ[i]? = some (some (.ref C)) ∧ tMake C sp dvs E t σ H Q
section
variable {X : Cx} {CX : CXT} {k i : Nat} {C f : Addr} {fd : FuncData} {ps : List Str} {sp : Sp} {dvs : List V} {ds : List Value} {E : XK} {x : Str} {p pos : Pos} {e : Expr} {es : List Expr} {t : TA}
theorem pe_makeL (M : Mk X.K C f) (F : FnOk X.prog X.w X.K X.mg X.base CX k f fd ps sp) (hr : Room (k + 1) X.A) (hN : X.N[i]? = some x) (hv : Vis X.env.scope x) (hb : Binds X.K fd ps ds) (hd : Vals dvs ds) (hx : Passes CX X E) (ha : PA X (e :: es) t)
    (hdb : (x == ("__debug__" : Str)) = false := by decide) (hcd : (x == ("__classdict__" : Str)) = false := by decide)
    (he : starEach (e :: es) X.env = (false, eval e X.env) :: starEach es X.env := by rfl) (hpl : (backTo pos (starEach es X.env)).any (·.1) = false := by rfl) : PE X (.Call (.Name x p) (e :: es) [] pos) (tMakeL i C sp dvs E t) := by
  refine ⟨fun pins s σ H Q I h => ?_⟩
  obtain ⟨hs, ht⟩ := h
  refine wpAny_Call_Name_kw (thn ((pe_var (pos := p) hN hv hdb hcd).run pins s σ H (fun v H1 => v = .ref C ∧ H1 = H) I ⟨.ref C, hs, rfl, rfl⟩) fun u s1 ⟨v, H1, I1, r1, q1⟩ => ?_)
  obtain ⟨rfl, rfl⟩ := q1
  cases r1
  refine PySem.W.callWith_K (h₀ := X.base) I.ok.mod.kin M.kp (thn (ha.run pos pins s1 σ _ _ I1 ht) fun us s2 ⟨vs, H2, I2, r, q⟩ => ⟨I2.kIn, ?_⟩) he hpl
  exact run_make M F hr hb hd hx I2 r q
end

/-! ### C.m() , m a classmethod, no argument -/
section
open ClX
variable {X : Cx} {CX : CXT} {k : Nat} {C p g : Addr} {mc : Value} {sp : Sp} {E : XK} {o : Expr} {m : Str} {pos apos : Pos} {ta : TE} {pl : Sem Bool}
theorem pe_cmeth0 (he : PE X o ta) (r : CRead X.K C mc) (c : CMet X.K C mc m p g) (F : FnR X.prog X.w X.K X.mg X.base CX k g sp) (hr : Room k X.A) (hx : Passes CX X E)
    (ht : eval (.Call (.Attribute o m apos) [] [] pos) X.env = (do
      let ov ← eval o X.env
      standAt apos.atName
      let (f, first) ← holding [ov] (getMethod ov m pl)
      callWith pos f first (backTo pos (starEach [] X.env)) (backToKw pos (keywordEach [] X.env))) := by rfl) :
    PE X (.Call (.Attribute o m apos) [] [] pos) (tCMeth C sp E ta tNil) := by
  refine ⟨fun pins s σ H Q I h => ?_⟩
  refine PySem.W.methodCall_KW (pl := pl) (thn (he.run pins s σ H _ I h) fun u s1 ⟨x, H1, I1, rx, ex, q⟩ => ?_) ht
  subst ex
  obtain rfl : u = Value.ref C := rx
  refine getmethcm_ok I1 r c fun s2 I2 => ?_
  refine PySem.W.callWith_M0 (K := X.K) (first := []) ⟨pin_at I2, I2.kIn⟩ c.fi ?_
  exact run_cm F hr hx I2 .nil q
end

/-! ### range(a, b) of any size -/
theorem turn_long {P : Program} {w : World} {K : PySem.W.Frag} {tg : Expr} (it : Addr) (lo : Int) (n : Nat) : Turn P w K tg (Itr lo n) [it] it (fun i h => IsLongIter h it (lo + (i : Nat) * 1) ((n : Int) - (i : Nat)) 1) where
  mem := by simp
  obj := fun i h st b hb => by
    have e : b = it := by simpa using hb
    subst e
    exact ⟨_, st, fun v z => by
      have z' : Data.fields _ = Data.cell v := z
      cases z'⟩
  keep := fun i h h' st k => k it (by simp) _ st
  item := by
    intro X hP hw hK hc i pins s σ H E I hf st hg
    subst hP hw hK
    obtain ⟨f0, f1, f2, f3, f4, f5⟩ := hf it (by simp)
    have W := Walks.longrange (prog := X.prog) (w := X.w) (I.ok.hd hc) it lo 1 n
    refine W.item i s _ _ hg st fun v h' tk hv st' kk => ?_
    obtain ⟨t, rfl⟩ := hv
    have I1 : Inv X pins σ H { s with heap := h', toks := tk } := I.turned (fun b o hb e => kk b o (by simpa using hb) e) f0 f1 f3 f4 f5
    refine ⟨_, rfl, go_of (s := { s with heap := h', toks := tk }) (n := "longrange_iterator") st' rfl rfl (by decide) ⟨.int (lo + i), H, I1, ⟨t, ?_⟩, ⟨rfl, rfl⟩, st', fun b hb => (hf b hb).1⟩⟩
    rw [Int.mul_one]
  done := by
    intro X hP hw hK hc i pins s σ H E I hf st hg
    subst hP hw hK
    obtain ⟨f0, f1, f2, f3, f4, f5⟩ := hf it (by simp)
    exact wpAny_pyNext_long_end (I.ok.hd hc) st (by have : n ≤ i := hg; omega) fun h' eb => ⟨rfl, I.turned (t' := s.toks) (fun b o hb e => eb b o hb e) f0 f1 f3 f4 f5⟩
  self := fun _ _ _ _ _ st h => wpAny_pyIter_longiter st h
section
variable {X : Cx} {tg : Expr}
theorem rsize_nat (lo hi : Int) : (((hi - lo).toNat : Nat) : Int) = Builtin.Range.rangeSize lo hi 1 := by
  rw [rangeSize_one]; split <;> omega
theorem rangeW_it {pins : List (Addr × Obj)} {σ : L2.St} {H : Hp} {s : Shared} {R : It → Hp → Prop} {E : Value → Shared → Prop} {lo hi : Int} {t u v : Tok} {tk : Nat} (I : Inv X pins σ H s)
    (q : R (Itr lo (hi - lo).toNat) H) : wpAny (model X.prog X.w) X.A (pyIter (.ref s.heap.objs.size)) (PIE X pins σ tg R) E { s with heap := s.heap.push { cls := .type "range", data := .fields #[.int lo t, .int hi u, .int 1 v] }, toks := tk } := by
  have I1 : Inv X pins σ H { s with heap := s.heap.push { cls := .type "range", data := .fields #[.int lo t, .int hi u, .int 1 v] }, toks := tk } := I.kept fun b o e => Heap.get?_push_of_some _ e
  cases hs : Builtin.Range.small lo hi 1 with
  | true =>
    refine wpAny_pyIter_range (IsRange.new ..) hs ?_
    refine ⟨(s.heap.push { cls := .type "range", data := .fields #[.int lo t, .int hi u, .int 1 v] }).objs.size, [(s.heap.push { cls := .type "range", data := .fields #[.int lo t, .int hi u, .int 1 v] }).objs.size], _, _, H, rfl,
      I1.kept (t' := tk) fun b o e => Heap.get?_push_of_some _ e, turn_range _ lo (hi - lo).toNat, ?_, fun b hb => ?_, q⟩
    · have e1 : lo + ((0 : Nat) : Int) * 1 = lo := by simp
      have e2 : (((hi - lo).toNat : Nat) : Int) - ((0 : Nat) : Int) = Builtin.Range.rangeSize lo hi 1 := by rw [rsize_nat]; simp
      show IsRangeIter _ _ (lo + ((0 : Nat) : Int) * 1) ((((hi - lo).toNat : Nat) : Int) - ((0 : Nat) : Int)) 1
      rw [e1, e2]
      exact Heap.get?_push_size _ rfl
    · have e : b = (s.heap.push { cls := .type "range", data := .fields #[.int lo t, .int hi u, .int 1 v] }).objs.size := by simpa using hb
      subst e
      exact I1.fpOk (Nat.le_refl _) (I1.hok.fresh (Nat.le_refl _))
  | false =>
    refine wpAny_pyIter_longrange (IsRange.new ..) hs ?_
    refine ⟨(s.heap.push { cls := .type "range", data := .fields #[.int lo t, .int hi u, .int 1 v] }).objs.size, [(s.heap.push { cls := .type "range", data := .fields #[.int lo t, .int hi u, .int 1 v] }).objs.size], _, _, H, rfl,
      I1.kept (t' := tk) fun b o e => Heap.get?_push_of_some _ e, turn_long _ lo (hi - lo).toNat, ?_, fun b hb => ?_, q⟩
    · have e1 : lo + ((0 : Nat) : Int) * 1 = lo := by simp
      have e2 : (((hi - lo).toNat : Nat) : Int) - ((0 : Nat) : Int) = Builtin.Range.rangeSize lo hi 1 := by rw [rsize_nat]; simp
      show IsLongIter _ _ (lo + ((0 : Nat) : Int) * 1) ((((hi - lo).toNat : Nat) : Int) - ((0 : Nat) : Int)) 1
      rw [e1, e2]
      exact Heap.get?_push_size _ rfl
    · have e : b = (s.heap.push { cls := .type "range", data := .fields #[.int lo t, .int hi u, .int 1 v] }).objs.size := by simpa using hb
      subst e
      exact I1.fpOk (Nat.le_refl _) (I1.hok.fresh (Nat.le_refl _))
def iRng2W (ta : TA) : TI := fun σ H R => ta σ H fun vs H1 => ∃ i j : Int, vs = [.int i, .int j] ∧ R (Itr i (j - i).toNat) H1
theorem pi_range2W {a b : Expr} {ta : TA} {p pos : Pos} (hg : Gl X "range") (hm : X.mg "range" = none) (ha : PA X [a, b] ta) (hs : starEach [a, b] X.env = [(false, eval a X.env), (false, eval b X.env)] := by rfl) (hs2 : starEach [b] X.env = [(false, eval b X.env)] := by rfl) :
    PI X tg (.Call (.Name "range" p) [a, b] [] pos) (iRng2W ta) := by
  refine ⟨fun pins s σ H R I h => ?_⟩
  refine Call_ (ld_blt I hg hm boot_range (PyProof.Rows.callWith_type1 (thn (ha.run pos pins s σ H _ I h) fun us s1 ⟨vs, H1, I1, r1, q1⟩ => ?_) (by rw [hs, hs2]) (by rw [hs2]; rfl)))
  obtain ⟨i, j, e, q⟩ := q1
  subst e
  cases r1 with
  | cons r rr =>
    cases rr with
    | cons r' rr =>
      cases rr
      obtain ⟨t, rfl⟩ := r
      obtain ⟨t', rfl⟩ := r'
      exact call_range_2 (rangeW_it I1 q)
end
end Jg

/-! defs that are called where no repr is under way, repr of data, and the law's end over such a def -/
namespace Jg
open PySem PySem.Spec PyProof.Rows L2

/-- a def's promise where no repr is under way -/
structure FnG (P : Program) (w : World) (K : PySem.W.Frag) (mg : Str → Option Value) (base : Heap) (CX : CXT) (k : Nat) (f : Addr) (fd : FuncData) (ps : List Str) (sp : Sp) : Prop where
  len : ∀ vs H Q E, sp vs H Q E → vs.length = ps.length
  run : ∀ (A : Around), A.guards = some [] → ∀ (outer : List Env) (s : Shared) (H : Hp) (args : Args) (us : List Value) (vs : List V) (Q : VK) (E : XK), Room k A → Env0 P w K mg base A outer s H → BindsTo s fd args (ps.zip us) → Vals vs us → sp vs H Q E →
    codeAny (model P w) A (.call (.ref f) args) (CR CX outer P w H s Q E) s
theorem FnG.of {P : Program} {w : World} {K : PySem.W.Frag} {mg : Str → Option Value} {base : Heap} {CX : CXT} {k : Nat} {f : Addr} {fd : FuncData} {ps : List Str} {sp : Sp} (F : FnOk P w K mg base CX k f fd ps sp) : FnG P w K mg base CX k f fd ps sp :=
  ⟨F.len, fun A _ => F.run A⟩
theorem FnG.mono {P : Program} {w : World} {K : PySem.W.Frag} {mg : Str → Option Value} {base : Heap} {CX : CXT} {j k : Nat} {f : Addr} {fd : FuncData} {ps : List Str} {sp : Sp} (F : FnG P w K mg base CX j f fd ps sp) (h : j ≤ k) :
    FnG P w K mg base CX k f fd ps sp := ⟨F.len, fun A g outer s H args us vs Q E hr => F.run A g outer s H args us vs Q E (hr.mono h)⟩

section
variable {X : Cx} {CX : CXT} {k : Nat} {f : Addr} {fd : FuncData} {ps : List Str} {sp : Sp} {dvs : List V} {ds : List Value} {E : XK} {x : Str} {p pos : Pos} {e : Expr} {es : List Expr} {t : TA}
theorem run_fnG {pins : List (Addr × Obj)} {σ : L2.St} {H : Hp} {s : Shared} {Q : VK} {us : List Value} {vs : List V} (F : FnG X.prog X.w X.K X.mg X.base CX k f fd ps sp) (g : X.A.guards = some []) (hr : Room k X.A) (hb : Binds X.K fd ps ds) (hd : Vals dvs ds) (hx : Passes CX X E)
    (I : Inv X pins σ H s) (r : Vals vs us) (h : sp (vs ++ dvs) H Q E) : wpAny (model X.prog X.w) X.A (call (.ref f) us) (EP X pins σ Q) X.xe s := by
  have both := r.append hd
  have hl : (us ++ ds).length = ps.length := both.length.symm.trans (F.len _ _ _ _ h)
  have go := F.run X.A g X.stack s H ⟨us, []⟩ (us ++ ds) (vs ++ dvs) Q E hr I.env0 (hb s us I.kIn hl) both h
  refine wpAny_call (codeAny_mono go fun r s' hq => ?_)
  match r, hq with
  | .error e, hq => exact hx pins σ H s e s' I hq
  | .ok (.ret u), hq => exact I.after hq
/-- f(e, ..) -/
theorem pe_callG (F : FnG X.prog X.w X.K X.mg X.base CX k f fd ps sp) (g : X.A.guards = some []) (hr : Room k X.A) (hg : Gl X x) (hm : X.mg x = some (.ref f)) (hk : PySem.W.keepIn X.K (.ref f) = true) (hb : Binds X.K fd ps ds) (hd : Vals dvs ds) (hx : Passes CX X E)
    (ha : PA X (e :: es) t) (hdb : (x == ("__debug__" : Str)) = false := by decide) (he : starEach (e :: es) X.env = (false, eval e X.env) :: starEach es X.env := by rfl) (hpl : (backTo pos (starEach es X.env)).any (·.1) = false := by rfl) :
    PE X (.Call (.Name x p) (e :: es) [] pos) (tCall sp dvs E t) :=
  ⟨fun pins s σ H Q I h => wpAny_Call_Name_kw (ld_glob I hg hm (PySem.W.callWith_K (h₀ := X.base) I.ok.mod.kin hk (thn (ha.run pos pins s σ H _ I h) fun _ _ ⟨_, _, I1, r, q⟩ => ⟨I1.kIn, run_fnG F g hr hb hd hx I1 r q⟩) he hpl) hdb)⟩
end

theorem guards_deeper {A : Around} {e : Env} (h : A.guards = some []) : (A.deeper e).guards = some [] := by
  first | exact h | (unfold Around.deeper; simpa using h)

section
variable {P : Program} {w : World} {K : PySem.W.Frag} {mg : Str → Option Value} {base : Heap}
/-- a def of the text, its body walked where no repr is under way -/
theorem fnG_of {CX : CXT} {k : Nat} {x qual : Str} {st : Stmt} {f : Addr} {fd : FuncData} {N ps : List Str} {sp : Sp} (F : Fun K x qual st f fd) (S : FnScope N ps (defScope st)) (len : ∀ vs H Q E, sp vs H Q E → vs.length = ps.length)
    (hbody : ∀ (cdv : Value) (A : Around) (outer : List Env) (s : Shared) (H : Hp) (vs : List V) (Q : VK) (E : XK), A.guards = some [] → Room k (A.deeper (envOfC qual (defScope st) s.heap.objs.size f cdv)) → sp vs H Q E →
      ∃ t, PSs (cxOf CX P w K mg base N qual (defScope st) f cdv A outer s H E) (defBody st) t ∧ t { nx := fun _ H' => Q .non H', rt := Q } (start N vs) H) : FnG P w K mg base CX (k + 1) f fd ps sp := by
  obtain ⟨oc, od, kV, doc, pm, an, cdv, ct, osl, rfl, lk, hcd⟩ := F.ex
  refine ⟨len, fun A g outer s H args us vs Q E hr e0 hb r hsp => ?_⟩
  have inHeap : K.In s.heap := e0.mod.kin.keeps fun b o e => (e0.bs b o e).1
  have kinds : ∀ y ∈ ps.zip us, (defScope st).names.lookup y.1 = some .local ∨ ((defScope st).names.lookup y.1 = some .cell ∧ ((cellsFrom (s.heap.objs.size + 1) (defScope st).names []).lookup y.1).isSome = true) := fun y hy =>
    (S.par y.1 (List.of_mem_zip hy).1).imp id fun q => ⟨q, PySem.W.cellsFrom_some _ _ _ (.inl q)⟩
  refine codeAny_call_function hr.depth (inHeap _ _ lk) rfl S.co S.gen rfl (PySem.W.codeRec_of inHeap hcd) (hb _ _ _ _ ?_)
  refine wpAny_newFunctionEnv_cells S.kind kinds fun env he s1 y => ?_
  subst he
  obtain ⟨t, ht, hq⟩ := hbody cdv A outer s H vs Q E g (hr.deeper _) hsp
  have I := inv_start (CX := CX) (E := E) S hr.hd e0 (len _ _ _ _ hsp) r y
  refine ⟨(e0.mod.nolimit.keeps fun b o e => (e0.bs b o e).1).keeps y.toInCall.keep, codeAny_func (wpAny_mono (ht.run [] s1 (start N vs) H _ I hq) (fun fl s' hs => ?_) fun _ _ hs => hs)⟩
  match fl, hs with
  | .ret u, ⟨v, _, H', J, rv, q⟩ => exact ⟨v, H', J.os, J.bare, J.base, J.hok, rv, q⟩
  | .next, ⟨_, H', J, q⟩ => exact ⟨.non, H', J.os, J.bare, J.base, J.hok, rfl, q⟩
  | .brk, ⟨_, _, _, q⟩ => exact False.elim q
  | .cont, ⟨_, _, _, q⟩ => exact False.elim q
end

/-! ### repr of data -/
theorem noDict : ∀ (K : PySem.W.Frag) (H : Hp) (d : PyData) (v : V), Dp K H v d → d.hasDict = false := by
  intro K H d v h
  refine Dp.rec (motive_1 := fun _ d _ => d.hasDict = false) (motive_2 := fun _ ds _ => PyData.hasDictAll ds = false) ?_ ?_ ?_ ?_ ?_ ?_ ?_ ?_ h
  · rfl
  · intro b; rfl
  · intro i; rfl
  · intro x; rfl
  · intro a xs ds _ _ ih; exact ih
  · intro a xs ds _ _ ih; exact ih
  · rfl
  · intro v vs d ds _ _ h1 h2
    show (PyData.hasDict d || PyData.hasDictAll ds) = false
    rw [h1, h2]; rfl
def rRepr (K : PySem.W.Frag) : List V → Hp → VK → Prop := fun xs H Q => ∃ a d, xs = [.ref a] ∧ Dp K H (.ref a) d ∧ d.showable = true ∧ d.depth ≤ 40 ∧ d.shown.length ≤ sizeLine ∧ Q (.str d.shown) H
section
variable {X : Cx}
theorem call_reprD (g : X.A.guards = some []) (hu : X.A.units + 64 < cLine) : CallR X (.builtin "repr") (rRepr X.K) := by
  intro pins s σ H xs us Q I r h
  obtain ⟨a, d, rfl, hd, hs, dp, hz, q⟩ := h
  obtain ⟨u, rfl, ru⟩ := vals1 r
  cases ru
  obtain ⟨as, R⟩ := Dp.reads I d (.ref a) (.ref a) hd rfl
  refine repr_of_reads' R hs (PyData.noDict_hsm (noDict _ _ _ _ hd)) g (by omega) (fun _ _ e => e) (fun h' u tk hk => ?_) hz
  exact ⟨.str d.shown, H, I.kept hk, ⟨_, rfl⟩, q⟩
end

/-! ### the end -/
theorem law_callG {P : Program} {w : World} {K : PySem.W.Frag} {mg mb : Str → Option Value} {CX : CXT} {k : Nat} {fa a : Addr} {fd : FuncData} {x : Str} {sp : Sp} {s₁ : Shared} {vs : List Value} {ns : List Int}
    (KX : K.In s₁.heap) (hns : s₁.heap.Ns mainGlobals mg) (hb : s₁.heap.Ns builtinsNs mb) (hbb : ∀ x : Str, x ≠ "__name__" → mb x = bootBuiltins x) (hlim : s₁.heap.NoLimit) (hg : s₁.gens = #[])
    (ha : s₁.heap.get? a = some { cls := .type "list", data := .seq vs.toArray }) (hi : IntsAre vs ns) (hl : ns.length ≤ sizeLine) (hr : Room k callerA)
    (F : ∀ base : Heap, K.In base → base.Ns mainGlobals mg → FnG P w K mg base CX k fa fd [x] sp) (hbind : ∀ (s : Shared) (u : Value), BindsTo s fd ⟨[u], []⟩ [(x, u)])
    (hsp : ∀ H : Hp, Only H → SqL K H a (ns.map V.int) → sp [.ref a] H (fun v _ => v = .bl true) fun _ _ _ => False)
    (hCX : ∀ H e s', CX [] H s₁ (fun _ _ _ => False) e s' → False) :
    codeAny (model P w) callerA (.call (.ref fa) ⟨[.ref a], []⟩) (fun r s' => r = .ok (.ret (.bool true)) ∧ OldK s₁.heap s'.heap ∧ s'.os = s₁.os ∧ AllBare s'.gens) s₁ := by
  have lenV := hi.length
  let scriptO : Obj := { cls := .type "list", data := .seq vs.toArray }
  -- what is tracked: the script, unless it is one of the module's own objects
  let H : Hp := fun b => if b = a ∧ K.lookup a = none then some (.frz scriptO (.lst (ns.map V.int))) else none
  have H1 : ∀ b u, H b = some u → b = a ∧ K.lookup a = none ∧ u = .frz scriptO (.lst (ns.map V.int)) := fun b u e => by
    show b = a ∧ _ ∧ _
    by_cases c : b = a ∧ K.lookup a = none
    · have e' : some (HO.frz scriptO (.lst (ns.map V.int))) = some u := (if_pos c).symm.trans e
      exact ⟨c.1, c.2, (Option.some.inj e').symm⟩
    · have e' : (none : Option HO) = some u := (if_neg c).symm.trans e
      cases e'
  have only : Only H := fun b => by
    cases e : H b with
    | none => exact .inl rfl
    | some u =>
      obtain ⟨_, _, rfl⟩ := H1 b u e
      exact .inr ⟨_, _, rfl⟩
  have seq : SqL K H a (ns.map V.int) := by
    cases hk : K.lookup a with
    | none => exact .inl (.inr ⟨scriptO, if_pos ⟨rfl, hk⟩⟩)
    | some o =>
      have e := KX a o hk
      rw [ha] at e
      cases e
      exact .inr ⟨_, vs.toArray, _, hk, rfl, rfl, rfl, by rw [List.size_toArray, lenV]; exact hl, by simpa using vals_ints hi⟩
  have ok : HOk P w H s₁.heap := fun b u e => by
    obtain ⟨rfl, _, rfl⟩ := H1 b u e
    exact ⟨ha, by rw [List.length_map]; exact hl, vs, _, vals_ints hi, ha⟩
  -- objects of other kinds than the script are not tracked
  have dictFree : ∀ {b : Addr} {o : Obj} {es : Array DictEntry} {ep : Nat}, s₁.heap.get? b = some o → o.data = .dict es ep → H b = none := fun {b o es ep} e d => by
    cases q : H b with
    | none => rfl
    | some u =>
      obtain ⟨rfl, _, _⟩ := H1 b u q
      rw [ha] at e
      cases e
      exact nomatch (show Data.seq vs.toArray _ = Data.dict es ep from d)
  have ns0 : ∀ {b : Addr} {m : Str → Option Value}, s₁.heap.Ns b m → (hidT s₁.heap H).Ns b m := fun {b m} ⟨o, es, ep, e, d, r⟩ => ⟨o, es, ep, hidT_get e (dictFree e d), d, r⟩
  have kin0 : K.In (hidT s₁.heap H) := fun b o e => hidT_get (KX b o e) (by
    cases q : H b with
    | none => rfl
    | some u =>
      obtain ⟨rfl, hk, _⟩ := H1 b u q
      rw [hk] at e; cases e)
  have md : Mod K mg (hidT s₁.heap H) := ⟨kin0, ns0 hns, ⟨mb, ns0 hb, hbb⟩, let ⟨mc, c1, c2⟩ := hlim; ⟨mc, ns0 c1, c2⟩⟩
  have e0 : Env0 P w K mg (hidT s₁.heap H) callerA [] s₁ H := ⟨rfl, md, fun b o e => of_hidT e, Nat.le_of_eq (hidT_size _ _), trivial, fun b hb => absurd (show b ∈ ([] : List Addr) from hb) (by simp), ok, .of_eq hg⟩
  have go := (F _ kin0 (ns0 hns)).run callerA rfl [] s₁ H ⟨[.ref a], []⟩ [.ref a] [.ref a] _ _ hr e0 (hbind s₁ (.ref a)) (.cons rfl .nil) (hsp H only seq)
  refine codeAny_mono go fun r s' h => ?_
  match r, h with
  | .error e, h => exact (hCX H e s' h).elim
  | .ok (.ret u), ⟨v, H', os, bare, un, hok', r', q⟩ =>
    have q' : v = .bl true := q
    subst q'
    cases (show u = Value.bool true from r')
    refine ⟨rfl, OldK.of_keep fun b o e => ?_, os, bare⟩
    cases q : H b with
    | none => exact un.keep b o e q (fun z => absurd (show b ∈ ([] : List Addr) from z) (by simp)) (by simp)
    | some u =>
      obtain ⟨rfl, _, rfl⟩ := H1 b u q
      have w2 := (hok' _ _ (un.frzs _ _ _ q)).1
      rw [ha] at e
      cases e
      exact w2
theorem walk_ofG {l : PySem.W.OpenLaw} {n k : Nat} {q : Program} {loose : List Str} {XP : (Str → Option Value) → Heap → Prop} {YP : World → Heap → Prop} {d : DefRec} {K : Params → PySem.W.Frag} {CX : World → CXT} {sp : World → Sp} {x : Str}
    (hn : l.most = some n) (hn2 : n ≤ sizeLine) (hdf : d.params.defaults = []) (hr : Room k callerA)
    (hY : ∀ (w : World) (h : Heap), YP w h → (K w.params).In h)
    (F : ∀ (w : World) (mg : Str → Option Value) (fa : Addr) (h : Heap), (K w.params).In h → h.Ns mainGlobals mg → mg d.name = some (.ref fa) → XP mg h →
      ∃ fd : FuncData, (∀ (s : Shared) (u : Value), BindsTo s fd ⟨[u], []⟩ [(x, u)]) ∧
        ∀ base : Heap, (K w.params).In base → base.Ns mainGlobals mg → FnG l.prog w (K w.params) mg base (CX w) k fa fd [x] (sp w))
    (hsp : ∀ (w : World) (H : Hp) (a : Addr) (ns : List Int), ns.length ≤ n → Only H → SqL (K w.params) H a (ns.map V.int) → sp w [.ref a] H (fun v _ => v = .bl true) fun _ _ _ => False)
    (hCX : ∀ (w : World) (H : Hp) (s : Shared) (e : Value) (s' : Shared), CX w [] H s (fun _ _ _ => False) e s' → False) :
    PySem.W.WalkO q loose XP YP l.row.toRowW d [] (fun f vs => PySem.call f vs) :=
  Att.attach_call hn hdf fun w _ s₁ mg mb fa _ _ _ _ a vs ns G Y _ _ _ hmg hobj hints hlen hg =>
    let ⟨_, hb, hF⟩ := F w mg fa _ (hY w _ Y) G.T.g hmg G.X
    law_callG (hY w _ Y) G.T.g G.T.b G.T.builtins G.T.nolimit hg hobj hints (Nat.le_trans hlen hn2) hr hF hb (fun H hO hS => hsp w H a ns hlen hO hS) fun H e s' => hCX w H s₁ e s'
/-- a number that the top keeps under a name, whatever its token -/
theorem loose_int {p : Program} {lv : List (Str × PySem.W.WData)} {mg : Str → Option Value} {h : Heap} {x : Str} {i : Int} (X : PySem.W.XL p lv mg h) (hm : (x, PySem.W.WData.int i) ∈ lv) : ∃ u, mg x = some u ∧ L2.RelV (.int i) u := by
  obtain ⟨v, e, r⟩ := X.2.val _ hm
  cases r
  exact ⟨_, e, _, rfl⟩
end Jg

/-! defs, methods, properties and classes by their names: addresses hidden -/
namespace Jg
open PySem PySem.Spec PyProof.Rows L2

theorem iteFe {A D : Prop} {b : Bool} (e : b = false) (h : D) : if b = true then A else D := by rw [e]; exact iteF h
theorem iteTe {A D : Prop} {b : Bool} (e : b = true) (h : A) : if b = true then A else D := by rw [e]; exact iteT h
/-- a def of the module as the top leaves it -/
structure DefK (K : PySem.W.Frag) (mg : Str → Option Value) (x : Str) (st : Stmt) : Prop where
  ex : ∃ f fd, Fun K x x st f fd ∧ mg x = some (.ref f)
theorem DefK.of {K : PySem.W.Frag} {h : Heap} {mg : Str → Option Value} {x : Str} {st : Stmt} {f : Addr} {oc : Value} {od an : Option Addr} {osl : Array (Option Value)} {kV doc pm cdv ct : Value} (X : K.In h) (G : h.Ns mainGlobals mg)
    (a : PySem.W.nsIn K mainGlobals x = some (some (.ref f))) (l : K.lookup f = some ⟨oc, od, .func (PySem.W.fnOf x x (defArgs st) (defBody st) (defScope st) .none kV doc pm an cdv ct), osl⟩)
    (c : PySem.W.codeIn K cdv x = true) (k : PySem.W.keepIn K (.ref f) = true) : DefK K mg x st := ⟨f, _, fun_mk l c k, PySem.W.mg_of X G a⟩
/-- a method of the class at C -/
structure MetK (K : PySem.W.Frag) (C : Addr) (m qual : Str) (st : Stmt) : Prop where
  ex : ∃ f fd, Fun K m qual st f fd ∧ PySem.W.findIn K (.ref C) m = some (some (.ref f)) ∧ PySem.W.isFn K (.ref f) = true
theorem MetK.of {K : PySem.W.Frag} {C : Addr} {m qual : Str} {st : Stmt} {f : Addr} {oc : Value} {od an : Option Addr} {osl : Array (Option Value)} {kV doc pm cdv ct : Value}
    (a : PySem.W.findIn K (.ref C) m = some (some (.ref f))) (i : PySem.W.isFn K (.ref f) = true) (l : K.lookup f = some ⟨oc, od, .func (PySem.W.fnOf m qual (defArgs st) (defBody st) (defScope st) .none kV doc pm an cdv ct), osl⟩)
    (c : PySem.W.codeIn K cdv qual = true) (k : PySem.W.keepIn K (.ref f) = true) : MetK K C m qual st := ⟨f, _, fun_mk l c k, a, i⟩
/-- a property of the class at C -/
structure PrpK (K : PySem.W.Frag) (C : Addr) (m qual : Str) (st : Stmt) : Prop where
  ex : ∃ p f fd, Fun K m qual st f fd ∧ PropOf K C m p f
theorem PrpK.of {K : PySem.W.Frag} {C : Addr} {m qual : Str} {st : Stmt} {p f : Addr} {rest : List Value} {oc : Value} {od an : Option Addr} {osl : Array (Option Value)} {kV doc pm cdv ct : Value}
    (a : PySem.W.findIn K (.ref C) m = some (some (.ref p))) (g : PySem.W.specialIn K (.ref p) "__get__" = some (some (.builtin "property.__get__"))) (tk : PySem.W.takesIn K (.ref p) = some true) (rc : PySem.W.recIn K p "property" = some (.ref f :: rest))
    (l : K.lookup f = some ⟨oc, od, .func (PySem.W.fnOf m qual (defArgs st) (defBody st) (defScope st) .none kV doc pm an cdv ct), osl⟩)
    (c : PySem.W.codeIn K cdv qual = true) (k : PySem.W.keepIn K (.ref f) = true) : PrpK K C m qual st := ⟨p, f, _, fun_mk l c k, ⟨a, g, tk, rest, rc⟩⟩
/-- a classmethod of the class at C -/
structure CmtK (K : PySem.W.Frag) (C : Addr) (mc : Value) (m qual : Str) (st : Stmt) : Prop where
  ex : ∃ p f fd, Fun K m qual st f fd ∧ ClX.CRead K C mc ∧ ClX.CMet K C mc m p f
theorem CmtK.of {K : PySem.W.Frag} {C : Addr} {mc : Value} {m qual : Str} {st : Stmt} {p f : Addr} {rest : List Value} {oc : Value} {od an : Option Addr} {osl : Array (Option Value)} {kV doc pm cdv ct : Value}
    (rd : PySem.W.readsIn K C mc = true) (ga : PySem.W.specialIn K (.ref C) "__getattribute__" = some (some (.builtin "type.__getattribute__")))
    (a : PySem.W.findCls K (.ref C) mc m = some (.get (.builtin "classmethod.__get__") (.ref p) .none (.ref C))) (rc : PySem.W.recIn K p "classmethod" = some (.ref f :: rest)) (fi : PySem.W.fnIn K f = true)
    (l : K.lookup f = some ⟨oc, od, .func (PySem.W.fnOf m qual (defArgs st) (defBody st) (defScope st) .none kV doc pm an cdv ct), osl⟩)
    (c : PySem.W.codeIn K cdv qual = true) (k : PySem.W.keepIn K (.ref f) = true) : CmtK K C mc m qual st := ⟨p, f, _, fun_mk l c k, ⟨rd, ga⟩, ⟨a, ⟨rest, rc⟩, fi⟩⟩

section
variable (P : Program) (w : World) (K : PySem.W.Frag) (mg : Str → Option Value) (base : Heap) (CX : CXT) (k : Nat)
/-- a def that may be called by its name -/
structure Cal (x : Str) (sp : Sp) : Prop where
  ex : ∃ f fd ps, FnOk P w K mg base CX k f fd ps sp ∧ mg x = some (.ref f) ∧ PySem.W.keepIn K (.ref f) = true ∧ Binds K fd ps []
structure CalG (x : Str) (sp : Sp) : Prop where
  ex : ∃ f fd ps, FnG P w K mg base CX k f fd ps sp ∧ mg x = some (.ref f) ∧ PySem.W.keepIn K (.ref f) = true ∧ Binds K fd ps []
/-- a method of the class at C -/
structure Met (C : Addr) (m : Str) (sp : Sp) : Prop where
  ex : ∃ f fd ps, FnOk P w K mg base CX k f fd ps sp ∧ PySem.W.findIn K (.ref C) m = some (some (.ref f)) ∧ PySem.W.isFn K (.ref f) = true ∧ PySem.W.keepIn K (.ref f) = true ∧ Binds K fd ps []
structure Prp (C : Addr) (m : Str) (sp : Sp) : Prop where
  ex : ∃ p f fd ps, FnOk P w K mg base CX k f fd ps sp ∧ PropOf K C m p f ∧ Binds K fd ps []
structure Cmt (C : Addr) (mc : Value) (m : Str) (sp : Sp) : Prop where
  ex : ∃ p f fd ps, FnOk P w K mg base CX k f fd ps sp ∧ ClX.CRead K C mc ∧ ClX.CMet K C mc m p f ∧ Binds K fd ps []
end
theorem CalG.of {P : Program} {w : World} {K : PySem.W.Frag} {mg : Str → Option Value} {base : Heap} {CX : CXT} {k : Nat} {x : Str} {sp : Sp} (c : Cal P w K mg base CX k x sp) : CalG P w K mg base CX k x sp :=
  let ⟨f, fd, ps, F, a⟩ := c.ex
  ⟨f, fd, ps, .of F, a⟩

/-- how a def of the text binds its arguments -/
def BindOk (x qual : Str) (st : Stmt) (ps : List Str) : Prop :=
  ∀ (kV doc pm : Value) (an : Option Addr) (cdv ct : Value) (us : List Value), us.length = ps.length → bindArgs (PySem.W.fnOf x qual (defArgs st) (defBody st) (defScope st) .none kV doc pm an cdv ct) ⟨us, []⟩ = pure (ps.zip us)
/-- what a body must show -/
def BodyOk (CX : CXT) (P : Program) (w : World) (K : PySem.W.Frag) (mg : Str → Option Value) (base : Heap) (N : List Str) (qual : Str) (st : Stmt) (f : Addr) (k : Nat) (sp : Sp) : Prop :=
  ∀ (cdv : Value) (A : Around) (outer : List Env) (s : Shared) (H : Hp) (vs : List V) (Q : VK) (E : XK), Room k (A.deeper (envOfC qual (defScope st) s.heap.objs.size f cdv)) → sp vs H Q E →
      ∃ t, PSs (cxOf CX P w K mg base N qual (defScope st) f cdv A outer s H E).nox (defBody st) t ∧ t { nx := fun _ H' => Q .non H', rt := Q } (start N vs) H
section
variable {P : Program} {w : World} {K : PySem.W.Frag} {mg : Str → Option Value} {base : Heap} {k : Nat} {C : Addr} {mc : Value} {x m qual : Str} {st : Stmt} {N ps : List Str} {sp : Sp}
theorem DefK.cal (D : DefK K mg x st) (S : FnScope N ps (defScope st)) (b : BindOk x x st ps) (len : ∀ vs H Q E, sp vs H Q E → vs.length = ps.length) (hb : ∀ f, BodyOk CX0 P w K mg base N x st f k sp) : Cal P w K mg base CX0 (k + 1) x sp :=
  let ⟨f, fd, F, m⟩ := D.ex
  ⟨f, fd, ps, F.ok S len (hb f), m, F.kp, F.binds b⟩
theorem DefK.calG (D : DefK K mg x st) (S : FnScope N ps (defScope st)) (b : BindOk x x st ps) (len : ∀ vs H Q E, sp vs H Q E → vs.length = ps.length)
    (hb : ∀ (f : Addr) (cdv : Value) (A : Around) (outer : List Env) (s : Shared) (H : Hp) (vs : List V) (Q : VK) (E : XK), (cxOf CX0 P w K mg base N x (defScope st) f cdv A outer s H E).nox.A.guards = some [] → Room k (A.deeper (envOfC x (defScope st) s.heap.objs.size f cdv)) → sp vs H Q E →
      ∃ t, PSs (cxOf CX0 P w K mg base N x (defScope st) f cdv A outer s H E).nox (defBody st) t ∧ t { nx := fun _ H' => Q .non H', rt := Q } (start N vs) H) : CalG P w K mg base CX0 (k + 1) x sp :=
  let ⟨f, fd, F, m⟩ := D.ex
  ⟨f, fd, ps, fnG_of F S len fun cdv A outer s H vs Q E g hr h =>
    let ⟨t, a, q⟩ := hb f cdv A outer s H vs Q E (guards_deeper g) hr h
    ⟨t, a.nox, q⟩, m, F.kp, F.binds b⟩
/-- .. and the function object, for the end -/
theorem DefK.fnG {fa : Addr} (D : DefK K mg x st) (hm : mg x = some (.ref fa)) (S : FnScope N ps (defScope st)) (b : BindOk x x st ps) (len : ∀ vs H Q E, sp vs H Q E → vs.length = ps.length) :
    ∃ fd : FuncData, Binds K fd ps [] ∧ ∀ (base : Heap), (∀ (f : Addr) (cdv : Value) (A : Around) (outer : List Env) (s : Shared) (H : Hp) (vs : List V) (Q : VK) (E : XK), (cxOf CX0 P w K mg base N x (defScope st) f cdv A outer s H E).nox.A.guards = some [] → Room k (A.deeper (envOfC x (defScope st) s.heap.objs.size f cdv)) → sp vs H Q E →
      ∃ t, PSs (cxOf CX0 P w K mg base N x (defScope st) f cdv A outer s H E).nox (defBody st) t ∧ t { nx := fun _ H' => Q .non H', rt := Q } (start N vs) H) → FnG P w K mg base CX0 (k + 1) fa fd ps sp := by
  obtain ⟨f, fd, F, m⟩ := D.ex
  rw [hm] at m
  cases m
  exact ⟨fd, F.binds b, fun base hb => fnG_of F S len fun cdv A outer s H vs Q E g hr h =>
    let ⟨t, a, q⟩ := hb _ cdv A outer s H vs Q E (guards_deeper g) hr h
    ⟨t, a.nox, q⟩⟩
theorem MetK.met (D : MetK K C m qual st) (S : FnScope N ps (defScope st)) (b : BindOk m qual st ps) (len : ∀ vs H Q E, sp vs H Q E → vs.length = ps.length) (hb : ∀ f, BodyOk CX0 P w K mg base N qual st f k sp) : Met P w K mg base CX0 (k + 1) C m sp :=
  let ⟨f, fd, F, a, i⟩ := D.ex
  ⟨f, fd, ps, F.ok S len (hb f), a, i, F.kp, F.binds b⟩
theorem PrpK.prp (D : PrpK K C m qual st) (S : FnScope N ps (defScope st)) (b : BindOk m qual st ps) (len : ∀ vs H Q E, sp vs H Q E → vs.length = ps.length) (hb : ∀ f, BodyOk CX0 P w K mg base N qual st f k sp) : Prp P w K mg base CX0 (k + 1) C m sp :=
  let ⟨p, f, fd, F, a⟩ := D.ex
  ⟨p, f, fd, ps, F.ok S len (hb f), a, F.binds b⟩
theorem CmtK.cmt (D : CmtK K C mc m qual st) (S : FnScope N ps (defScope st)) (b : BindOk m qual st ps) (len : ∀ vs H Q E, sp vs H Q E → vs.length = ps.length) (hb : ∀ f, BodyOk CX0 P w K mg base N qual st f k sp) : Cmt P w K mg base CX0 (k + 1) C mc m sp :=
  let ⟨p, f, fd, F, r, a⟩ := D.ex
  ⟨p, f, fd, ps, F.ok S len (hb f), r, a, F.binds b⟩
end

section
variable {X : Cx} {k j : Nat} {C : Addr} {mc : Value} {x m : Str} {sp : Sp} {p pos apos : Pos} {e o : Expr} {es : List Expr} {ta : TE} {t : TA}
theorem pe_c (c : Cal X.prog X.w X.K X.mg X.base CX0 k x sp) (hr : Room j X.A) (hk : k ≤ j) (hg : Gl X x) (ha : PA X (e :: es) t)
    (hdb : (x == ("__debug__" : Str)) = false := by decide) (he : starEach (e :: es) X.env = (false, eval e X.env) :: starEach es X.env := by rfl) (hpl : (backTo pos (starEach es X.env)).any (·.1) = false := by rfl) :
    PE X (.Call (.Name x p) (e :: es) [] pos) (tCall sp [] E0 t) := by
  obtain ⟨f, fd, ps, F, hm, kp, b⟩ := c.ex
  exact pe_call F (hr.mono hk) hg hm kp b .nil pass0 ha hdb he hpl
theorem pe_cG (c : CalG X.prog X.w X.K X.mg X.base CX0 k x sp) (g : X.A.guards = some []) (hr : Room j X.A) (hk : k ≤ j) (hg : Gl X x) (ha : PA X (e :: es) t)
    (hdb : (x == ("__debug__" : Str)) = false := by decide) (he : starEach (e :: es) X.env = (false, eval e X.env) :: starEach es X.env := by rfl) (hpl : (backTo pos (starEach es X.env)).any (·.1) = false := by rfl) :
    PE X (.Call (.Name x p) (e :: es) [] pos) (tCall sp [] E0 t) := by
  obtain ⟨f, fd, ps, F, hm, kp, b⟩ := c.ex
  exact pe_callG F g (hr.mono hk) hg hm kp b .nil pass0 ha hdb he hpl
/-- a class that is made by its name -/
structure Mak (P : Program) (w : World) (K : PySem.W.Frag) (mg : Str → Option Value) (base : Heap) (CX : CXT) (k : Nat) (x : Str) (C : Addr) (sp : Sp) : Prop where
  mg_ : mg x = some (.ref C)
  mks : PySem.W.makesIn K C = true
  kp : PySem.W.keepIn K (.ref C) = true
  init : Met P w K mg base CX k C "__init__" sp
theorem pe_mk (c : Mak X.prog X.w X.K X.mg X.base CX0 k x C sp) (hr : Room j X.A) (hk : k + 1 ≤ j) (hg : Gl X x) (ha : PA X (e :: es) t)
    (hdb : (x == ("__debug__" : Str)) = false := by decide) (he : starEach (e :: es) X.env = (false, eval e X.env) :: starEach es X.env := by rfl) (hpl : (backTo pos (starEach es X.env)).any (·.1) = false := by rfl) :
    PE X (.Call (.Name x p) (e :: es) [] pos) (tMake C sp [] E0 t) := by
  obtain ⟨f, fd, ps, F, a, i, kp, b⟩ := c.init.ex
  exact pe_make ⟨c.mks, a, i, c.kp⟩ F (hr.mono hk) hg c.mg_ b .nil pass0 ha hdb he hpl
theorem pe_mkL {i : Nat} (c : Mak X.prog X.w X.K X.mg X.base CX0 k m C sp) (hr : Room j X.A) (hk : k + 1 ≤ j) (hN : X.N[i]? = some x) (hv : Vis X.env.scope x) (ha : PA X (e :: es) t)
    (hdb : (x == ("__debug__" : Str)) = false := by decide) (hcd : (x == ("__classdict__" : Str)) = false := by decide)
    (he : starEach (e :: es) X.env = (false, eval e X.env) :: starEach es X.env := by rfl) (hpl : (backTo pos (starEach es X.env)).any (·.1) = false := by rfl) : PE X (.Call (.Name x p) (e :: es) [] pos) (tMakeL i C sp [] E0 t) := by
  obtain ⟨f, fd, ps, F, a, b', kp, b⟩ := c.init.ex
  exact pe_makeL ⟨c.mks, a, b', c.kp⟩ F (hr.mono hk) hN hv b .nil pass0 ha hdb hcd he hpl
theorem pe_m {pl : Sem Bool} (c : Met X.prog X.w X.K X.mg X.base CX0 k C m sp) (cl : Cls X.K C) (hr : Room j X.A) (hk : k ≤ j) (he : PE X o ta) (ha : PA X (e :: es) t)
    (hst : starEach (e :: es) X.env = (false, eval e X.env) :: starEach es X.env := by rfl) (hpl : (backTo pos (starEach es X.env)).any (·.1) = false := by rfl)
    (ht : eval (.Call (.Attribute o m apos) (e :: es) [] pos) X.env = (do
      let ov ← eval o X.env
      standAt apos.atName
      let (f, first) ← holding [ov] (getMethod ov m pl)
      callWith pos f first (backTo pos (starEach (e :: es) X.env)) (backToKw pos (keywordEach [] X.env))) := by rfl) :
    PE X (.Call (.Attribute o m apos) (e :: es) [] pos) (tMeth C m sp [] E0 ta t) := by
  obtain ⟨f, fd, ps, F, a, i, kp, b⟩ := c.ex
  exact pe_meth (pl := pl) he cl ⟨a, i, kp⟩ F (hr.mono hk) b .nil pass0 ha hst hpl ht
theorem pe_p (c : Prp X.prog X.w X.K X.mg X.base CX0 k C m sp) (cl : Cls X.K C) (hr : Room j X.A) (hk : k + 1 ≤ j) (he : PE X o ta)
    (hab : attributeBase o m X.env (eval o X.env) = eval o X.env := by rfl) : PE X (.Attribute o m pos) (tProp C sp [] E0 ta) := by
  obtain ⟨q, f, fd, ps, F, a, b⟩ := c.ex
  exact pe_prop he cl a F (hr.mono hk) b .nil pass0 hab
theorem op_c {op : CmpOp} {m : Str} (c : Met X.prog X.w X.K X.mg X.base CX0 k C m sp) (hr : Room j X.A) (hk : k ≤ j) (hm : m = (cmpInfo op).2.1 := by rfl)
    (hc : ∀ v u, compareOp op v u = richCompare op v u := by intro _ _; rfl) : OpR X (compareOp op) (rOwn X.K C sp E0) := by
  subst hm
  obtain ⟨f, fd, ps, F, a, i, kp, b⟩ := c.ex
  exact op_own F (hr.mono hk) ⟨a, i⟩ b pass0 hc
theorem op_b {op : Operator} {m : Str} (c : Met X.prog X.w X.K X.mg X.base CX0 k C m sp) (sf : PySem.W.selfFirst X.K C = true) (hr : Room j X.A) (hk : k ≤ j) (hm : m = PySem.dunder op.info.2 := by rfl) : OpR X (binaryOp op) (rOwnB C sp E0) := by
  subst hm
  obtain ⟨f, fd, ps, F, a, i, kp, b⟩ := c.ex
  exact op_ownB F (hr.mono hk) ⟨a, i⟩ sf b pass0
theorem op_in (c : Met X.prog X.w X.K X.mg X.base CX0 k C "__contains__" sp) (hr : Room j X.A) (hk : k ≤ j) : OpR X (compareOp .In) (rOwnIn C sp E0) := by
  obtain ⟨f, fd, ps, F, a, i, kp, b⟩ := c.ex
  exact op_ownIn F (hr.mono hk) ⟨a, i⟩ b pass0
theorem op_notIn (c : Met X.prog X.w X.K X.mg X.base CX0 k C "__contains__" sp) (hr : Room j X.A) (hk : k ≤ j) : OpR X (compareOp .NotIn) (rOwnNotIn C sp E0) := by
  obtain ⟨f, fd, ps, F, a, i, kp, b⟩ := c.ex
  exact op_ownNotIn F (hr.mono hk) ⟨a, i⟩ b pass0
/-- a name of the module, by its value; a built-in type by its name -/
theorem pe_gc {v : V} (hg : Gl X x) (h : ∃ u, X.mg x = some u ∧ L2.RelV v u) (hd : (x == ("__debug__" : Str)) = false := by decide) : PE X (.Name x pos) (tC v) := by
  obtain ⟨u, hm, r⟩ := h
  exact pe_glob hg hm r hd
theorem pe_ty {n : String} (hg : Gl X x) (hm : X.mg x = none) (hv : bootBuiltins x = some (.type n)) (hn : x ≠ "__name__" := by decide) (hd : (x == ("__debug__" : Str)) = false := by decide) : PE X (.Name x pos) (tC (.ty n)) :=
  pe_bltn (v := .ty n) (u := .type n) hg hm hv rfl hn hd
theorem pe_cm0 {pl : Sem Bool} (c : Cmt X.prog X.w X.K X.mg X.base CX0 k C mc m sp) (hr : Room j X.A) (hk : k ≤ j) (he : PE X o ta)
    (ht : eval (.Call (.Attribute o m apos) [] [] pos) X.env = (do
      let ov ← eval o X.env
      standAt apos.atName
      let (f, first) ← holding [ov] (getMethod ov m pl)
      callWith pos f first (backTo pos (starEach [] X.env)) (backToKw pos (keywordEach [] X.env))) := by rfl) :
    PE X (.Call (.Attribute o m apos) [] [] pos) (ClX.tCMeth C (fun vs H Q E => sp (vs ++ []) H Q E) E0 ta tNil) := by
  obtain ⟨q, f, fd, ps, F, r, a, b⟩ := c.ex
  exact pe_cmeth0 (pl := pl) he r a (F.raw b .nil) (hr.mono hk) pass0 ht
end
end Jg

/-! set(xs) of a list of ints -/
namespace Jg
open PySem PySem.Spec PyProof.Rows L2
/-- a set just made -/
def mtSet (w : World) : Obj := { cls := .type "set", dict := none, data := .set #[] 0 (.fresh 0 0 (!w.params.followText "set-order")) }
section
variable {P : Program} {w : World} {A : Around} {E : Value → Shared → Prop} {s : Shared}
/-- what stands behind set(xs): a new set of the ints -/
abbrev SetDone (w : World) (s : Shared) (ns : List Int) (s₂ : Shared) : Prop :=
  ∃ h' tk c, s₂ = { s with heap := h', toks := tk } ∧ SetR w h' s.heap.objs.size (fun j => decide (j ∈ ns)) c ∧ c ≤ ns.length ∧ ∀ b o, s.heap.get? b = some o → h'.get? b = some o
theorem mt_at (w : World) (h : Heap) : (h.push (mtSet w)).get? h.objs.size = some (mtSet w) := Heap.get?_push_size _ rfl
set_option maxHeartbeats 8000000 in
theorem set_of_list {l : Addr} {items : Array Value} (ns : List Int) {Q : Value → Shared → Prop} (hh : A.handled = none) (hl : s.heap.IsList l items) (hit : IntsAre items.toList ns) (hb : ns.length + 1 < scanBound)
    (h : ∀ s₂, SetDone w s ns s₂ → Q (.ref s.heap.objs.size) s₂) : wpAny (model P w) A (call (.type "set") [.ref l]) Q E s := by
  have hsz : items.size = ns.length := (Array.length_toList (xs := items)).symm.trans (IntsAre.length hit)
  obtain ⟨c, tl, hmro⟩ := F.called_set.mro
  have m1 := F.called_set.made
  have m2 := F.called_set.sub
  have m3 := F.called_set.notType
  have m4 := F.called_set.canCreate
  have m5 := F.typeCall_set_1 (.ref l)
  refine wpAny_call (codeAny_of_tree (show wpAny _ _ (callAny (.type "set") _) _ _ _ from wpAny_pure ⟨Code.quiet_builtin _ (by decide +kernel), codeAny_builtin F.entry_type_call ?_⟩))
  rw [Around.under_plain (weight_type_call_type "set" [.ref l] []) rfl]
  repeat (any_goals (first | assumption | wp_step))
  refine codeAny_mono (code_set_led1 (.ref l) (E := E) (Q₁ := fun obj s₁ => obj = .ref s.heap.objs.size ∧ s₁ = { s with heap := s.heap.push (mtSet w) }) ⟨rfl, rfl⟩) fun r s₁ hr => ?_
  match r, hr with
  | .error e, hr => exact hr
  | .ok (.ret obj), hr =>
    obtain ⟨rfl, rfl⟩ := hr
    have new := mt_at w s.heap
    have ty : Shared.TypeIs { s with heap := s.heap.push (mtSet w) } (.ref s.heap.objs.size) "set" := ⟨_, new, rfl⟩
    have m6 := F.called_set.init.lookup
    have m7 := F.called_set.init.bind (.ref s.heap.objs.size)
    repeat (any_goals (first | assumption | wp_step))
    refine codeAny_mono (codeAny_call_builtin (R := wants (fun r s₂ => r = .none ∧ SetDone w s ns s₂) E) F.called_set.init.plain F.entry_set_init (check_set_init_1 ty ?_)) fun r₂ s₂ hr₂ => ?_
    · obtain ⟨⟨ocls, odict, odata, oslots⟩, hol, hcl, nl, hdl⟩ := hl
      simp only at hcl hdl
      subst hcl; subst hdl
      have lt : l < s.heap.objs.size := Heap.lt_size hol
      have old : (s.heap.push (mtSet w)).get? l = some { cls := .type "list", dict := odict, data := .seq items nl, slots := oslots } := Heap.get?_push_of_some _ hol
      have il : (s.heap.push (mtSet w)).IsList l items := ⟨_, old, rfl, nl, rfl⟩
      have n1 := F.sub_list_set
      have n2 := F.sub_list_frozenset
      have n3 : (Value.type "list" == Value.type "dict") = false := by decide
      have sz : (s.heap.push (mtSet w)).objs.size = s.heap.objs.size + 1 := Heap.size_push ..
      unfold Builtin.«set.__init__» noKeywords Builtin.Frozenset.updateFrom
      generalize hPI : pyIter = PI
      wp_walk
      subst hPI
      refine wpAny_pyIter_list il (wpAny_bind (wpAny_runValue ?_))
      have apart : l ≠ (s.heap.push (mtSet w)).objs.size := by rw [sz]; exact Nat.ne_of_lt (Nat.lt_succ_of_lt lt)
      refine set_update_ints (P := P) (w := w) ((Walks.list (show A.in1.in1.in1.handled = none by simp [hh]) _ l apart items).toS) s.heap.objs.size ?_ ns hsz hb (fun i v hv => ?_) (items.size - 0) 0 _ (by omega) (Nat.zero_le _)
        ⟨⟨_, Heap.get?_push_size _ rfl, rfl, rfl⟩, il.push _⟩ ⟨0, Nat.le_refl 0, setR_new_at (Heap.get?_push_of_some _ new)⟩ fun s' c' hm hc' hS' => ?_
      · rw [sz]
        intro z
        rcases List.mem_cons.mp z with z | z
        · exact absurd z (Nat.ne_of_lt (Nat.lt_succ_self _))
        · rcases List.mem_cons.mp z with z | z
          · exact absurd z (Nat.ne_of_gt lt)
          · cases z
      · have hi : i < ns.length := by rw [← hsz]; exact (Array.getElem?_eq_some_iff.mp hv).1
        obtain ⟨t, e⟩ := PyProof.Rows.IntsAre.int_at hit i v (by rw [Array.getElem?_toList]; exact hv)
        exact ⟨ns[i], t, List.getElem?_eq_getElem hi, by rw [e, List.getD_eq_getElem?_getD, List.getElem?_eq_getElem hi] <;> rfl⟩
      · obtain ⟨h', g2, d', tk', os'⟩ := s'
        obtain rfl : g2 = s.gens := hm.gens
        obtain rfl : d' = s.drawn := hm.drawn
        obtain rfl : os' = s.os := hm.os
        refine wpAny_pure (show wpAny _ _ (ret Value.none) _ _ _ from wpAny_pure ⟨rfl, h', tk', c', rfl, hS', by omega, fun b o e => ?_⟩)
        have lb : b < s.heap.objs.size := Heap.lt_size e
        refine hm.heap b o (fun z => ?_) (Heap.get?_push_of_some _ (Heap.get?_push_of_some _ e))
        rcases List.mem_cons.mp z with z | z
        · exact absurd z (Nat.ne_of_lt lb)
        · rcases List.mem_cons.mp z with z | z
          · rw [sz] at z
            exact absurd z (Nat.ne_of_lt (Nat.lt_succ_of_lt lb))
          · cases z
    · match r₂, hr₂ with
      | .error e, hr₂ => exact hr₂
      | .ok (.ret r), hr₂ =>
        obtain ⟨rfl, done⟩ := hr₂
        repeat (any_goals (first | assumption | wp_step))
        exact h _ done
end
/-- set(xs) -/
def rSetL (K : PySem.W.Frag) (w : World) : List V → Hp → VK → Prop := fun xs H Q => ∃ (a : Addr) (ns : List Int), xs = [.ref a] ∧ SqL K H a (ns.map V.int) ∧ ns.length + 1 < scanBound ∧
  ∀ p c, H p = none → c ≤ ns.length → Q (.ref p) (upd H p (SetO w p (fun j => decide (j ∈ ns)) c))
theorem ints_of : ∀ {ns : List Int} {us : List Value}, Vals (ns.map V.int) us → IntsAre us ns
  | [], [], .nil => .nil
  | n :: _, _ :: _, .cons ⟨t, e⟩ r => by
    subst e
    exact .cons n t (ints_of r)
theorem cr_setL {X : Cx} (hc : X.calm = true) : CallR X (.type "set") (rSetL X.K X.w) := by
  intro pins s σ H xs us Q I r h
  obtain ⟨a, ns, rfl, hs, hb, q⟩ := h
  obtain ⟨u, rfl, ru⟩ := vals1 r
  cases ru
  obtain ⟨its, rv, p, hz⟩ := I.list hs
  refine set_of_list ns (I.ok.hd hc) p.isList (by simpa using ints_of rv) hb fun s₂ ⟨h', tk, c, e, R, hc', k⟩ => ?_
  subst e
  exact ⟨.ref s.heap.objs.size, _, I.laid (t' := tk) k (Nat.le_refl _) (setO_new R), rfl, q _ c (I.hok.fresh (Nat.le_refl _)) hc'⟩
end Jg

/-! comprehensions that filter ints: [m for m in .. if test], the test pure -/
namespace Jg
open PySem PySem.Spec PyProof.Rows L2
def win (lo : Int) (n : Nat) : List Int := (List.range n).map fun j => lo + (j : Nat)
theorem win_succ (lo : Int) (n : Nat) : win lo (n + 1) = win lo n ++ [lo + (n : Nat)] := by
  unfold win
  rw [List.range_succ, List.map_append]; rfl
theorem win_len (lo : Int) (n : Nat) : (win lo n).length = n := by unfold win; simp
/-- the shape that a list comprehension's reading asks -/
abbrev LcAsk (J : It) (g : TG) (tt : TT) (te : TE) (vs : List Nat) (σ : L2.St) (H1 : Hp) (D : Addr) (Qd : Hp → Prop) : Prop :=
  ∃ W : Nat → Nat → Hp → Prop, (∃ m, W 0 m (upd H1 D (.lst []))) ∧ ∀ i m H, W i m H →
      (J.stop i H ∧ Qd H) ∨ (J.go i H ∧ ∃ Nx : Hp → Prop, (∀ H', Nx H' → ∃ m', m' < m ∧ W (i + 1) m' H') ∧ ∀ x H', J.yld i H x H' → g x (wipe σ vs) H' fun σ2 H2 => wipe σ2 vs = wipe σ vs ∧ tt σ2 H2 fun b H3 =>
        if b = true then te σ2 H3 fun y H4 => ∃ acc, H4 D = some (.lst acc) ∧ acc.length < sizeLine ∧ Nx (upd H4 D (.lst (acc ++ [y]))) else Nx H3)
section
variable {i : Nat} {tt : TT} {σ : L2.St} {H1 : Hp} {D : Addr} {Qd : Hp → Prop} {vs : List Nat}
theorem filt_step {p : Int → Bool} {ms : List Int} {m : Int} (nD : H1 D = none) (hl : ms.length < 1000) (hw : wipe ((wipe σ vs).set i (some (.int m))) vs = wipe σ vs) (hi : ((wipe σ vs).set i (some (.int m)))[i]? = some (some (.int m)))
    (ht : ∀ H (k : Bool → Hp → Prop), Same H1 H → k (p m) H → tt ((wipe σ vs).set i (some (.int m))) H k) (Pv : Hp → Prop) (hP : Pv (upd H1 D (.lst (((ms ++ [m]).filter p).map V.int)))) :
    gName i (.int m) (wipe σ vs) (upd H1 D (.lst ((ms.filter p).map V.int))) fun σ2 H2 => wipe σ2 vs = wipe σ vs ∧ tt σ2 H2 fun b H3 =>
      if b = true then tVar i σ2 H3 fun y H4 => ∃ acc, H4 D = some (.lst acc) ∧ acc.length < sizeLine ∧ Pv (upd H4 D (.lst (acc ++ [y]))) else Pv H3 := by
  refine ⟨hw, ht _ _ (fun b o e => by rw [upd_ne (ne_of_none e nD)]; exact e) ?_⟩
  have e1 : (ms ++ [m]).filter p = ms.filter p ++ [m].filter p := List.filter_append ..
  cases hp : p m with
  | true =>
    have e2 : [m].filter p = [m] := by simp [List.filter, hp]
    rw [e1, e2, List.map_append] at hP
    refine iteT ⟨.int m, hi, _, upd_same, ?_, ?_⟩
    · rw [List.length_map]
      exact small1000 (Nat.le_trans (List.length_filter_le ..) (Nat.le_of_lt hl))
    · rw [upd_upd]
      exact hP
  | false =>
    have e2 : [m].filter p = [] := by simp [List.filter, hp]
    rw [e1, e2, List.append_nil] at hP
    exact iteF hP
theorem lcf_range {lo : Int} {n : Nat} (p : Int → Bool) (nD : H1 D = none) (hn : n ≤ 900) (hw : ∀ m : Int, wipe ((wipe σ vs).set i (some (.int m))) vs = wipe σ vs) (hi : ∀ m : Int, ((wipe σ vs).set i (some (.int m)))[i]? = some (some (.int m)))
    (ht : ∀ (m : Int) H (k : Bool → Hp → Prop), m ∈ win lo n → Same H1 H → k (p m) H → tt ((wipe σ vs).set i (some (.int m))) H k) (hd : Qd (upd H1 D (.lst (((win lo n).filter p).map V.int)))) :
    LcAsk (Itr lo n) (gName i) tt (tVar i) vs σ H1 D Qd := by
  refine lc_range (lo := lo) (n := n) (fun j H => H = upd H1 D (.lst (((win lo j).filter p).map V.int))) rfl (fun j H hj e => ?_) fun H e => e ▸ hd
  subst e
  have hm : lo + (j : Nat) ∈ win lo n := List.mem_map.mpr ⟨j, List.mem_range.mpr hj, rfl⟩
  exact filt_step (p := p) nD (by rw [win_len]; omega) (hw _) (hi _) (fun H k => ht _ H k hm) (fun H => H = upd H1 D (.lst (((win lo (j + 1)).filter p).map V.int))) (by rw [win_succ])
theorem lcf_list {K : PySem.W.Frag} {a : Addr} {ms : List Int} (p : Int → Bool) (hs : SqL K H1 a (ms.map V.int)) (nD : H1 D = none) (hn : ms.length ≤ 900) (hw : ∀ m : Int, wipe ((wipe σ vs).set i (some (.int m))) vs = wipe σ vs) (hi : ∀ m : Int, ((wipe σ vs).set i (some (.int m)))[i]? = some (some (.int m)))
    (ht : ∀ (m : Int) H (k : Bool → Hp → Prop), m ∈ ms → Same H1 H → k (p m) H → tt ((wipe σ vs).set i (some (.int m))) H k) (hd : Qd (upd H1 D (.lst ((ms.filter p).map V.int)))) :
    LcAsk (Itl K a) (gName i) tt (tVar i) vs σ H1 D Qd := by
  have sn : ∀ o, Same H1 (upd H1 D o) := fun o b u e => by rw [upd_ne (ne_of_none e nD)]; exact e
  refine lc_list (K := K) (a := a) (xs := ms.map V.int) (fun j H => H = upd H1 D (.lst (((ms.take j).filter p).map V.int))) rfl (fun j H _ e => e ▸ (sn _).seq hs) (fun j x H hx e => ?_) fun H e => ?_
  · subst e
    rw [List.getElem?_map] at hx
    cases hm : ms[j]? with
    | none => rw [hm] at hx; cases hx
    | some m =>
      rw [hm] at hx
      cases hx
      have e2 : ms.take (j + 1) = ms.take j ++ [m] := by rw [List.take_add_one, hm]; rfl
      exact filt_step (p := p) nD (by rw [List.length_take]; omega) (hw _) (hi _) (fun H k => ht _ H k (List.mem_of_getElem? hm)) (fun H => H = upd H1 D (.lst (((ms.take (j + 1)).filter p).map V.int))) (by rw [e2])
  · rw [List.length_map, List.take_length] at e
    exact e ▸ hd
end
/-! ### strictly sorted lists of ints -/
theorem sorted_ext : ∀ {xs ys : List Int}, xs.Pairwise (· < ·) → ys.Pairwise (· < ·) → (∀ k, k ∈ xs ↔ k ∈ ys) → xs = ys
  | [], [], _, _, _ => rfl
  | [], y :: ys, _, _, h => absurd ((h y).mpr List.mem_cons_self) (by simp)
  | x :: xs, [], _, _, h => absurd ((h x).mp List.mem_cons_self) (by simp)
  | x :: xs, y :: ys, h1, h2, h => by
    obtain ⟨a1, a2⟩ := List.pairwise_cons.mp h1
    obtain ⟨b1, b2⟩ := List.pairwise_cons.mp h2
    have e : x = y := by
      have m1 := (h x).mp List.mem_cons_self
      have m2 := (h y).mpr List.mem_cons_self
      rcases List.mem_cons.mp m1 with z | z
      · exact z
      · rcases List.mem_cons.mp m2 with z' | z'
        · exact z'.symm
        · have := b1 x z
          have := a1 y z'
          omega
    subst e
    have t : xs = ys := sorted_ext a2 b2 fun k => by
      constructor
      · intro hk
        rcases List.mem_cons.mp ((h k).mp (List.mem_cons_of_mem _ hk)) with z | z
        · have := a1 k hk; omega
        · exact z
      · intro hk
        rcases List.mem_cons.mp ((h k).mpr (List.mem_cons_of_mem _ hk)) with z | z
        · have := b1 k hk; omega
        · exact z
    rw [t]
theorem win_sorted (lo : Int) (n : Nat) : (win lo n).Pairwise (· < ·) := by
  unfold win
  rw [List.pairwise_map]
  exact List.pairwise_lt_range.imp fun h => by omega
theorem mem_win {lo : Int} {n : Nat} {m : Int} : m ∈ win lo n ↔ lo ≤ m ∧ m < lo + n := by
  unfold win
  constructor
  · intro h
    obtain ⟨j, hj, rfl⟩ := List.mem_map.mp h
    have := List.mem_range.mp hj
    omega
  · intro h
    exact List.mem_map.mpr ⟨(m - lo).toNat, List.mem_range.mpr (by omega), by omega⟩
/-- the last item, the first one given -/
def lastOf (x : Int) : List Int → Int
  | [] => x
  | y :: r => lastOf y r
/-- how many there are at most between the first and the last, and when all of them are there -/
theorem tight : ∀ (x : Int) (l : List Int), (x :: l).Pairwise (· < ·) → x ≤ lastOf x l ∧ ((x :: l).length : Int) ≤ lastOf x l - x + 1 ∧ (((x :: l).length : Int) = lastOf x l - x + 1 ↔ ∀ m, x ≤ m → m ≤ lastOf x l → m ∈ x :: l)
  | x, [], _ => by
    refine ⟨Int.le_refl _, by show (1 : Int) ≤ x - x + 1; omega, ⟨fun _ m h1 h2 => ?_, fun _ => by show (1 : Int) = x - x + 1; omega⟩⟩
    have h3 : m ≤ x := h2
    have e : m = x := by omega
    rw [e]; exact List.mem_cons_self
  | x, y :: r, h => by
    obtain ⟨a1, a2⟩ := List.pairwise_cons.mp h
    have hxy := a1 y List.mem_cons_self
    obtain ⟨i1, i2, i3⟩ := tight y r a2
    have el : lastOf x (y :: r) = lastOf y r := rfl
    have en : ((x :: y :: r).length : Int) = ((y :: r).length : Int) + 1 := by simp
    rw [el, en]
    refine ⟨by omega, by omega, ⟨fun e m h1 h2 => ?_, fun q => ?_⟩⟩
    · have e1 : y = x + 1 := by omega
      by_cases c : m = x
      · rw [c]; exact List.mem_cons_self
      · exact List.mem_cons_of_mem _ (i3.mp (by omega) m (by omega) h2)
    · have e1 : y = x + 1 := by
        have m1 := q (x + 1) (by omega) (by omega)
        rcases List.mem_cons.mp m1 with z | z
        · omega
        · rcases List.mem_cons.mp z with z | z
          · exact z.symm
          · have := (List.pairwise_cons.mp a2).1 _ z
            omega
      have e2 := i3.mpr fun m h1 h2 => by
        rcases List.mem_cons.mp (q m (by omega) h2) with z | z
        · omega
        · exact z
      omega
theorem lastOf_get : ∀ (x : Int) (l : List Int), (x :: l)[l.length]? = some (lastOf x l)
  | x, [] => rfl
  | x, y :: r => by
    show (y :: r)[r.length]? = _
    exact lastOf_get y r
end Jg

/-! lists and tuples of ints as data: == and what it asks -/
namespace Jg
open PySem PySem.Spec PyProof.Rows L2
theorem lay_ints : ∀ xs : List Int, PyData.canLayAll0 (xs.map PyData.int) = true
  | [] => rfl
  | x :: xs => by
    show (PyData.canLay0 (.int x) && PyData.canLayAll0 (xs.map PyData.int)) = true
    rw [lay_ints xs]; rfl
theorem depth_ints : ∀ xs : List Int, PyData.depthAll (xs.map PyData.int) = 0
  | [] => rfl
  | x :: xs => by
    show max (PyData.depth (.int x)) (PyData.depthAll (xs.map PyData.int)) = 0
    rw [depth_ints xs]; rfl
theorem shaped_ints (xs : List Int) : SeqAt.shaped (.list (xs.map PyData.int)) = true := by
  show (PyData.canLayAll0 (xs.map PyData.int) && decide (PyData.depthAll (xs.map PyData.int) + 1 ≤ 64)) = true
  rw [lay_ints, depth_ints]; rfl
theorem shaped_tup (xs : List Int) : SeqAt.shaped (.tuple (xs.map PyData.int)) = true := by
  show (PyData.canLayAll0 (xs.map PyData.int) && decide (PyData.depthAll (xs.map PyData.int) + 1 ≤ 64)) = true
  rw [lay_ints, depth_ints]; rfl
theorem eqvAll_ints : ∀ xs ys : List Int, PyData.eqvAll (xs.map PyData.int) (ys.map PyData.int) = decide (xs = ys)
  | [], [] => rfl
  | [], y :: ys => rfl
  | x :: xs, [] => rfl
  | x :: xs, y :: ys => by
    have ih := eqvAll_ints xs ys
    show (PyData.eqv (.int x) (.int y) && PyData.eqvAll (xs.map PyData.int) (ys.map PyData.int)) = _
    rw [ih]
    have e : PyData.eqv (.int x) (.int y) = decide (x = y) := by
      by_cases c : x = y
      · subst c; simp [PyData.eqv]
      · simp [PyData.eqv, c]
    rw [e]
    by_cases c : x = y
    · subst c
      by_cases d : xs = ys
      · subst d; simp
      · simp [d]
    · simp [c]
theorem eqv_ints (xs ys : List Int) : PyData.eqv (.list (xs.map PyData.int)) (.list (ys.map PyData.int)) = decide (xs = ys) := by
  rw [PyData.eqv]; exact eqvAll_ints xs ys
theorem eqv_tup (xs ys : List Int) : PyData.eqv (.tuple (xs.map PyData.int)) (.tuple (ys.map PyData.int)) = decide (xs = ys) := by
  rw [PyData.eqv]; exact eqvAll_ints xs ys
theorem dpAll_ints {K : PySem.W.Frag} {H : Hp} : ∀ xs : List Int, DpAll K H (xs.map V.int) (xs.map PyData.int)
  | [] => .nil
  | x :: xs => .cons (.int x) (dpAll_ints xs)
theorem dp_ints {K : PySem.W.Frag} {H : Hp} {a : Addr} {xs : List Int} (h : SqL K H a (xs.map V.int)) : Dp K H (.ref a) (.list (xs.map PyData.int)) := .lst h (dpAll_ints xs)
theorem dp_tup {K : PySem.W.Frag} {H : Hp} {a : Addr} {xs : List Int} (h : SqT K H a (xs.map V.int)) : Dp K H (.ref a) (.tuple (xs.map PyData.int)) := .tup h (dpAll_ints xs)
/-- == of two lists of ints, of two tuples of ints -/
theorem ask_eqL {K : PySem.W.Frag} {H : Hp} {a b : Addr} {xs ys : List Int} {Q : VK} (h1 : SqL K H a (xs.map V.int)) (h2 : SqL K H b (ys.map V.int)) (q : Q (.bl (decide (xs = ys))) H) : rEqD K (.ref a) (.ref b) H Q :=
  ⟨_, _, dp_ints h1, dp_ints h2, shaped_ints xs, shaped_ints ys, by rw [eqv_ints]; exact q⟩
theorem ask_neL {K : PySem.W.Frag} {H : Hp} {a b : Addr} {xs ys : List Int} {Q : VK} (h1 : SqL K H a (xs.map V.int)) (h2 : SqL K H b (ys.map V.int)) (q : Q (.bl (!decide (xs = ys))) H) : rNeD K (.ref a) (.ref b) H Q :=
  ⟨_, _, dp_ints h1, dp_ints h2, shaped_ints xs, shaped_ints ys, by rw [eqv_ints]; exact q⟩
theorem ask_eqT {K : PySem.W.Frag} {H : Hp} {a b : Addr} {xs ys : List Int} {Q : VK} (h1 : SqT K H a (xs.map V.int)) (h2 : SqT K H b (ys.map V.int)) (q : Q (.bl (decide (xs = ys))) H) : rEqD K (.ref a) (.ref b) H Q :=
  ⟨_, _, dp_tup h1, dp_tup h2, shaped_tup xs, shaped_tup ys, by rw [eqv_tup]; exact q⟩
theorem pair_dec {a b c d : Int} : decide ([a, b] = [c, d]) = decide ((a, b) = (c, d)) := by
  by_cases h : (a, b) = (c, d)
  · cases h; rw [decide_eq_true rfl, decide_eq_true rfl]
  · rw [decide_eq_false h, decide_eq_false fun z => h (by injection z with z1 z2; injection z2 with z2 _; rw [z1, z2])]
/-- x in a list of ints -/
theorem inV_ints {m : Int} : ∀ {xs : List Int}, inV (.int m) (xs.map V.int) = decide (m ∈ xs)
  | [] => rfl
  | x :: xs => by
    have ih := inV_ints (m := m) (xs := xs)
    show (eqV (.int x) (.int m) || inV (.int m) (xs.map V.int)) = _
    rw [ih]
    have e : eqV (.int x) (.int m) = decide (x = m) := by
      by_cases c : x = m
      · subst c; simp [eqV]
      · simp [eqV, c]
    rw [e]
    by_cases c : x = m
    · subst c; simp
    · have c' : ¬ m = x := fun z => c z.symm
      simp [c, c']
theorem flat_ints : ∀ {xs : List Int}, (xs.map V.int).all flatV = true
  | [] => rfl
  | x :: xs => by
    show (flatV (.int x) && (xs.map V.int).all flatV) = true
    rw [flat_ints]; rfl
theorem ask_in {K : PySem.W.Frag} {H : Hp} {a : Addr} {xs : List Int} {m : Int} {Q : VK} (h : SqL K H a (xs.map V.int)) (q : Q (.bl (decide (m ∈ xs))) H) : rIn K false (.int m) (.ref a) H Q :=
  ⟨a, _, rfl, .inl h, rfl, flat_ints, by
    show Q (.bl (inV (.int m) (xs.map V.int))) H
    rw [inV_ints]; exact q⟩
theorem map_cat {K : PySem.W.Frag} {H : Hp} {a : Addr} {xs ys : List Int} (h : SqL K H a (xs.map V.int ++ ys.map V.int)) : SqL K H a ((xs ++ ys).map V.int) := by rw [List.map_append]; exact h
end Jg

/-! try with any number of clauses, named or not, the rest of them perhaps never asked -/
namespace Jg
open PySem PySem.Spec PyProof.Rows L2

/-- an exception a of the class cls, its dict d, lies caught in the frame of X -/
def Caught (X : Cx) (pins : List (Addr × Obj)) (σ : L2.St) (H : Hp) (a : Addr) (cls : Value) (d : Option Addr) (s : Shared) : Prop :=
  ∃ (B : Heap) (s0 : Shared), Inv X pins σ H s0 ∧ (∀ b o, s0.heap.get? b = some o → b ∉ frs X.stack → B.get? b = some o) ∧ s0.heap.UpToSlots s.heap ∧
    HandSPX.FlyingZ B (X.env :: X.outer) a (Zc cls d) s.heap ∧ s.os = s0.os ∧ AllBare s.gens ∧ H a = none
section
variable {X : Cx} {pins : List (Addr × Obj)} {σ : L2.St} {H : Hp} {a : Addr} {cls : Value} {d : Option Addr} {s : Shared}
theorem Caught.inv (c : Caught X pins σ H a cls d s) : Inv X pins σ H s :=
  let ⟨_, _, J, keep, up, fly, os, bare, _⟩ := c
  J.landed keep fly.1 up os bare
theorem Caught.hole (c : Caught X pins σ H a cls d s) : H a = none :=
  let ⟨_, _, _, _, _, _, _, _, z⟩ := c
  z
/-- the place of the exception, and what stands there -/
theorem Caught.place (c : Caught X pins σ H a cls d s) (fr : X.env.frame = some X.env.locals) :
    ∃ oe vs, s.heap.get? a = some oe ∧ Zc cls d oe ∧ oe.data = .fields vs ∧ a ≠ X.env.locals ∧ a ∉ X.fs := by
  obtain ⟨B, s0, J, keep, up, fly, os, bare, z⟩ := c
  obtain ⟨oe, vs, at_, zc, dt⟩ := fly.there
  have out : a ∉ frs (X.env :: X.outer) := fun m => by
    obtain ⟨_, o, at2, no⟩ := fly.2.2.1.mem m
    cases at_.symm.trans at2
    exact no vs dt
  refine ⟨oe, vs, at_, zc, dt, fun e => out ?_, fun m => out ?_⟩
  · rw [e]
    exact List.mem_filterMap.mpr ⟨_, List.mem_cons_self, fr⟩
  · obtain ⟨e, me, fe⟩ := List.mem_filterMap.mp m
    exact List.mem_filterMap.mpr ⟨e, List.mem_cons_of_mem _ me, fe⟩
theorem Caught.again {M : Model} {A : Around} {E : Value → Shared → Prop} {Q : Unit → Shared → Prop} (c : Caught X pins σ H a cls d s) (q : ∀ s', Caught X pins σ H a cls d s' → Q () s') :
    wpAny M A (setFlight (.ref a) .none) Q E s := by
  obtain ⟨B, s0, J, keep, up, fly, os, bare, z⟩ := c
  exact HandSPX.lands_againZ fly fun h' fly' up' => q _ ⟨B, s0, J, keep, up.trans up', fly', os, bare, z⟩
/-- no clause took it: it goes on -/
theorem Caught.goes {W : WX} {Q : Flow → Shared → Prop} {pos : String} (ok : X.Ok) (hs : X.stack = X.env :: X.outer) (fr : X.env.frame = some X.env.locals) (c : Caught X pins σ H a cls d s) (tk : Takes X W) (w : W cls d σ H) :
    wpAny (model X.prog X.w) X.A (passOn pos (.ref a) X.env) Q X.xe s := by
  obtain ⟨B, s0, J, keep, up, fly, os, bare, z⟩ := c
  obtain ⟨_, _, _, oe, vs, T, oT, ts, at_, _, dt, one, _⟩ := id fly
  have last : wpAny (model X.prog X.w) X.A (setFlight (.ref a) X.env.frame) (fun _ s4 => wpAny (model X.prog X.w) X.A (throw (.ref a) : Sem Flow) Q X.xe s4) X.xe s := by
    rw [fr]
    refine HandSPX.setFlight_upZ fly fun h4 held up4 => wpAny_throw (tk _ _ ⟨a, B, s0, pins, σ, H, cls, d, rfl, J, keep, up.trans up4, .inr (.inr ?_), z, os, bare, w⟩)
    rw [hs]
    exact held
  unfold PySem.passOn
  refine wpAny_bind (wpAny_field at_ dt one ?_)
  rw [if_neg (by simp : ¬ ((Value.ref T == Value.none) = true))]
  first
    | exact wpAny_bind (wpAny_pure (wpAny_bind last))
    | exact wpAny_bind last
end

/-- the slot i is free behind what the ends say -/
def gone (i : Nat) (D : Ends) : Ends := { nx := fun σ H => D.nx (σ.set i .none) H, rt := D.rt, bk := fun σ H => D.bk (σ.set i .none) H, ct := fun σ H => D.ct (σ.set i .none) H }
/-- what a row of clauses wishes of the exception -/
inductive Hds (X : Cx) (Wout : WX) : List ExceptHandler → (Ends → WX) → Prop
  | out : Hds X Wout [] fun _ => Wout
  | cut {l : List ExceptHandler} : Hds X Wout l fun _ _ _ _ _ => False
  | named {x n : Str} {c : Value} {i : Nat} {ts : Addr → Value → Option Addr → TS} {b : Stmt} {suite : List Stmt} {np p : Pos} {l : List ExceptHandler} {w : Ends → WX} (hi : X.N[i]? = some n) (hl : X.env.kindOf n = some .local) (hc : Names X x c)
      (body : ∀ (a : Addr) (oe : Obj) (cls : Value) (d : Option Addr) (pn : List (Addr × Obj)), Zc cls d oe → (∃ vs, oe.data = .fields vs) → PSs (X.suite a ((a, oe) :: pn)) (b :: suite) (ts a cls d)) (r : Hds X Wout l w) :
      Hds X Wout (.ExceptHandler (some (.Name x np)) (some n) (b :: suite) p :: l) fun D cls d σ H =>
        ∃ k, PySem.W.exmOne X.K cls c = some k ∧ (k = true → ∀ a, H a = .none → ts a cls d (gone i D) (σ.set i (some (.ref a))) H) ∧ (k = false → w D cls d σ H)
  | plain {x : Str} {c : Value} {ts : Addr → Value → Option Addr → TS} {b : Stmt} {suite : List Stmt} {np p : Pos} {l : List ExceptHandler} {w : Ends → WX} (hc : Names X x c)
      (body : ∀ (a : Addr) (oe : Obj) (cls : Value) (d : Option Addr) (pn : List (Addr × Obj)), Zc cls d oe → (∃ vs, oe.data = .fields vs) → PSs (X.suite a ((a, oe) :: pn)) (b :: suite) (ts a cls d)) (r : Hds X Wout l w) :
      Hds X Wout (.ExceptHandler (some (.Name x np)) none (b :: suite) p :: l) fun D cls d σ H =>
        ∃ k, PySem.W.exmOne X.K cls c = some k ∧ (k = true → ∀ a, H a = .none → ts a cls d D σ H) ∧ (k = false → w D cls d σ H)
section
variable {X : Cx} {Wout : WX}
/-- the test of a clause -/
theorem Caught.test {pins : List (Addr × Obj)} {σ : L2.St} {H : Hp} {a : Addr} {cls c : Value} {d : Option Addr} {s : Shared} {x : Str} {k : Bool} {np p : Pos} {R : Result → Shared → Prop} (t : Caught X pins σ H a cls d s) (fr : X.env.frame = some X.env.locals)
    (hc : Names X x c) (e : PySem.W.exmOne X.K cls c = some k) (q : R (.ok (if k then .brk else .next)) s) :
    codeAny (model X.prog X.w) (X.A.mark (some (.ref a))) (.handlers (.ref a) [.ExceptHandler (some (.Name x np)) none [] p] X.env) R s := by
  obtain ⟨oe, vs, at_, zc, dt, nl, nf⟩ := t.place fr
  have J := t.inv.suite at_ dt t.hole nl nf
  have ty : PySem.W.Looks (model X.prog X.w) s.heap (typeOf (.ref a)) cls := fun A Q E s' keep z => wpAny_typeOf_ref (keep _ _ at_) (by rw [zc.1]; exact z)
  have hit := PySem.W.exm_one (M := model X.prog X.w) t.inv.kIn ty e
  refine codeAny_handlers_test ?_
  obtain ⟨hg, nd, m | ⟨m, v, nn⟩⟩ := hc
  · exact ld_glob J hg m (hit.here q) nd
  · exact ld_blt J hg m v (hit.here q) nn nd
theorem Hds.run {hds : List ExceptHandler} {w : Ends → WX} (hd : Hds X Wout hds w) (hs : X.stack = X.env :: X.outer) (fr : X.env.frame = some X.env.locals) (hN : X.N.Nodup) (tk : Takes X Wout)
    {pins : List (Addr × Obj)} {σ : L2.St} {H : Hp} {a : Addr} {cls : Value} {d : Option Addr} {s : Shared} {D : Ends} (t : Caught X pins σ H a cls d s) (h : w D cls d σ H) :
    wpAny (model X.prog X.w) X.A (handleBy (.ref a) X.env hds) (SP X pins D) X.xe s := by
  have ok := t.inv.ok
  induction hd with
  | out => exact wpAny_handleBy_nil (t.goes ok hs fr tk h)
  | cut => exact h.elim
  | @named x n c i ts b suite np p l w hi hl hc body r ih =>
    obtain ⟨k, e, yes, no⟩ := h
    refine wpAny_handleBy_cons ?_ (fun z => nomatch z)
    refine t.test fr hc e ?_
    cases k with
    | false => exact ih (no rfl)
    | true =>
      refine codeAny_handlers_suite_as (t.again fun s2 t2 => ?_)
      obtain ⟨oe, vs, at_, zc, dt, nl, nf⟩ := t2.place fr
      have J := t2.inv.suite at_ dt t2.hole nl nf
      refine store_ok (X := X.suite a ((a, oe) :: (X.pn ++ pins))) (v := .ref a) J hN hi (.inl hl) rfl (fun s3 J3 => ?_) (.inr hl)
      refine wpAny_mono ((body a oe cls d _ zc ⟨vs, dt⟩).run [] s3 _ H _ J3 (yes rfl a t2.hole)) (fun f s4 z => ?_) fun _ _ z => z.elim
      have off : ∀ {σ4 : L2.St} {H4 : Hp} {Q : Shared → Prop}, Inv (X.suite a ((a, oe) :: (X.pn ++ pins))) [] σ4 H4 s4 → (∀ s5, Inv X pins (σ4.set i .none) H4 s5 → Q s5) →
          wpAny (model X.prog X.w) X.A (do bindName X.env n .none; unbindBehindTheSuite X.env n p) (fun _ s5 => Q s5) X.xe s4 := fun J4 q => gone_ok (J4.unsuite ok) hN hi hl q
      match f, z with
      | .next, ⟨_, _, J4, q⟩ => exact off J4 fun s5 J5 => ⟨_, _, J5, q⟩
      | .brk, ⟨_, _, J4, q⟩ => exact off J4 fun s5 J5 => ⟨_, _, J5, q⟩
      | .cont, ⟨_, _, J4, q⟩ => exact off J4 fun s5 J5 => ⟨_, _, J5, q⟩
      | .ret u, ⟨_, _, _, J4, rv, q⟩ => exact off J4 fun s5 J5 => ⟨_, _, _, J5, rv, q⟩
  | @plain x c ts b suite np p l w hc body r ih =>
    obtain ⟨k, e, yes, no⟩ := h
    refine wpAny_handleBy_cons ?_ (fun z => nomatch z)
    refine t.test fr hc e ?_
    cases k with
    | false => exact ih (no rfl)
    | true =>
      refine codeAny_handlers_suite (t.again fun s2 t2 => ?_)
      obtain ⟨oe, vs, at_, zc, dt, nl, nf⟩ := t2.place fr
      have J := t2.inv.suite at_ dt t2.hole nl nf
      refine wpAny_mono ((body a oe cls d _ zc ⟨vs, dt⟩).run [] s2 _ H _ J (yes rfl a t2.hole)) (fun f s4 z => ?_) fun _ _ z => z.elim
      match f, z with
      | .next, ⟨_, _, J4, q⟩ => exact ⟨_, _, J4.unsuite ok, q⟩
      | .brk, ⟨_, _, J4, q⟩ => exact ⟨_, _, J4.unsuite ok, q⟩
      | .cont, ⟨_, _, J4, q⟩ => exact ⟨_, _, J4.unsuite ok, q⟩
      | .ret u, ⟨_, _, _, J4, rv, q⟩ => exact ⟨_, _, _, J4.unsuite ok, rv, q⟩
/-- try: body / clauses -/
theorem ps_try {body : List Stmt} {h₀ : ExceptHandler} {hds : List ExceptHandler} {w : Ends → WX} {pos : Pos} {tb : WX → TS} (hd : Hds X Wout (h₀ :: hds) w) (hs : X.stack = X.env :: X.outer) (fr : X.env.frame = some X.env.locals) (hN : X.N.Nodup) (tk : Takes X Wout)
    (hb : ∀ (W : WX) (pn : List (Addr × Obj)) (xe : Value → Shared → Prop), Takes (X.tr pn xe) W → PassesOwn (model X.prog X.w) X.A X.env xe → PSs (X.tr pn xe) body (tb W)) :
    PS X (.Try body (h₀ :: hds) [] [] pos) fun D σ H => tb (w D) D σ H := by
  refine ⟨fun pins s σ H D I h => wpAny_Try_except ?_⟩
  have ok := I.ok
  let xe : Value → Shared → Prop := fun e s1 => wpAny (model X.prog X.w) X.A (noteFrame e X.env) (fun _ s2 => wpAny (model X.prog X.w) X.A (setFlight e .none) (fun _ s3 => wpAny (model X.prog X.w) X.A (handleBy e X.env (h₀ :: hds)) (SP X pins D) X.xe s3) X.xe s2) X.xe s1
  have tkb : Takes (X.tr (X.pn ++ pins) xe) (w D) := by
    rintro u s1 ⟨a, B, s0, pins', σ1, H1, cls, d, rfl, J', keep, up, sky, z, os, bare, wd⟩
    have J : Inv X pins σ1 H1 s0 := J'.ofTry ok
    have fl : Sky B (X.env :: X.outer) a (Zc cls d) X.env.locals s1.heap := by rw [← hs]; exact sky
    show wpAny (model X.prog X.w) X.A (noteFrame (.ref a) X.env) _ _ _
    refine Sky.land Zc.steady (by rw [ok.frames, hs]) fr fl fun h3 fly up3 => ?_
    exact hd.run hs fr hN tk ⟨B, s0, J, keep, up.trans up3, fly, os, bare, z⟩ wd
  refine wpAny_mono ((hb (w D) (X.pn ++ pins) xe tkb PassesOwn.looking).run [] s σ H D (I.toTry xe) h) (fun f s1 z => ?_) fun _ _ z => z
  match f, z with
  | .next, ⟨_, _, J, q⟩ => exact wpAny_execs_nil ⟨_, _, J.ofTry ok, q⟩
  | .brk, ⟨_, _, J, q⟩ => exact ⟨_, _, J.ofTry ok, q⟩
  | .cont, ⟨_, _, J, q⟩ => exact ⟨_, _, J.ofTry ok, q⟩
  | .ret u, ⟨_, _, _, J, rv, q⟩ => exact ⟨_, _, _, J.ofTry ok, rv, q⟩
end

/-! ### what may raise: called at the slots as they stand -/
/-- C(..) whose __init__ may let an exception out -/
def tMakeS (C : Addr) (sp : Sp) (E : L2.St → XK) (t : TA) : TE := fun σ H Q => t σ H fun vs H1 => ∀ x dx, H1 x = none → H1 dx = none → dx ≠ x →
  sp (.ref x :: vs) (upd (upd H1 dx (.own x)) x (.ins C dx [])) (fun v H2 => v = .non ∧ Q (.ref x) H2) (E σ)
section
variable {X : Cx} {k j : Nat} {C : Addr} {x m : Str} {sp : Sp} {W : WX} {p pos : Pos} {e : Expr} {es : List Expr} {t : TA}
theorem pe_cS (c : Cal X.prog X.w X.K X.mg X.base (L2.CX X.prog X.w) k x sp) (tk : Takes X W) (hr : Room j X.A) (hk : k ≤ j) (hg : Gl X x) (ha : PA X (e :: es) t)
    (hdb : (x == ("__debug__" : Str)) = false := by decide) (he : starEach (e :: es) X.env = (false, eval e X.env) :: starEach es X.env := by rfl) (hpl : (backTo pos (starEach es X.env)).any (·.1) = false := by rfl) :
    PE X (.Call (.Name x p) (e :: es) [] pos) (tCallS sp (WE W) t) := by
  obtain ⟨f, fd, ps, F, hm, kp, b⟩ := c.ex
  exact pe_callS F (hr.mono hk) hg hm kp b (passAt tk) ha hdb he hpl
theorem pe_mkS (c : Mak X.prog X.w X.K X.mg X.base (L2.CX X.prog X.w) k x C sp) (tk : Takes X W) (hr : Room j X.A) (hk : k + 1 ≤ j) (hg : Gl X x) (ha : PA X (e :: es) t)
    (hdb : (x == ("__debug__" : Str)) = false := by decide) (he : starEach (e :: es) X.env = (false, eval e X.env) :: starEach es X.env := by rfl) (hpl : (backTo pos (starEach es X.env)).any (·.1) = false := by rfl) :
    PE X (.Call (.Name x p) (e :: es) [] pos) (tMakeS C sp (WE W) t) := by
  obtain ⟨f, fd, ps, F, ini, fn, kp, b⟩ := c.init.ex
  refine ⟨fun pins s σ H Q I h => wpAny_Call_Name_kw (ld_glob I hg c.mg_ (PySem.W.callWith_K (h₀ := X.base) I.ok.mod.kin c.kp (thn (ha.run pos pins s σ H _ I h) fun us s1 ⟨vs, H1, J, r, q⟩ => ⟨J.kIn, ?_⟩) he hpl) hdb)⟩
  have q1 := q (s1.heap.objs.size + 1) s1.heap.objs.size (J.hok.fresh (Nat.le_succ _)) (J.hok.fresh (Nat.le_refl _)) (Nat.ne_of_lt (Nat.lt_succ_self _))
  have J2 := Inv.made (C := C) J
  have r2 : Vals (V.ref (s1.heap.objs.size + 1) :: vs) (Value.ref (s1.heap.objs.size + 1) :: us) := .cons rfl r
  have ln : (Value.ref (s1.heap.objs.size + 1) :: us).length = ps.length := r2.length.symm.trans (F.len _ _ _ _ q1)
  have bd := b _ (Value.ref (s1.heap.objs.size + 1) :: us) J2.kIn (by rw [List.append_nil]; exact ln)
  rw [List.append_nil] at bd
  have run := F.run _ X.stack _ _ ⟨Value.ref (s1.heap.objs.size + 1) :: us, []⟩ _ _ _ (WE W σ) ((hr.mono hk).make C us []) (J2.env0.make C us []) bd r2 q1
  show wpAny (model X.prog X.w) X.A (call (.ref C) us) (EP X pins σ Q) X.xe s1
  refine wpAny_call (make_map (f := f) J.kIn c.mks ini (beq_iff_eq.mp fn) (codeAny_mono run fun o s2 z => ?_))
  match o, z with
  | .error err, z => exact passAt tk σ pins _ _ err s2 J2 z
  | .ok (.ret u), z =>
    obtain ⟨v, H2, J3, rv, ev, q3⟩ := J2.after z
    subst ev
    exact ⟨rv, V.ref (s1.heap.objs.size + 1), H2, J3, rfl, q3⟩
end
section
variable {P : Program} {w : World} {K : PySem.W.Frag} {mg : Str → Option Value} {base : Heap} {k : Nat} {C : Addr} {x m qual : Str} {st : Stmt} {N ps : List Str} {sp : Sp}
/-- what a body that may raise must show -/
def BodyX (P : Program) (w : World) (K : PySem.W.Frag) (mg : Str → Option Value) (base : Heap) (N : List Str) (qual : Str) (st : Stmt) (f : Addr) (k : Nat) (sp : Sp) : Prop :=
  ∀ (cdv : Value) (A : Around) (outer : List Env) (s : Shared) (H : Hp) (vs : List V) (Q : VK) (E : XK), Room k (A.deeper (envOfC qual (defScope st) s.heap.objs.size f cdv)) → sp vs H Q E →
      ∃ t, PSs (cxOf (L2.CX P w) P w K mg base N qual (defScope st) f cdv A outer s H E) (defBody st) t ∧ t { nx := fun _ H' => Q .non H', rt := Q } (start N vs) H
theorem DefK.calX (D : DefK K mg x st) (S : FnScope N ps (defScope st)) (b : BindOk x x st ps) (len : ∀ vs H Q E, sp vs H Q E → vs.length = ps.length) (hb : ∀ f, BodyX P w K mg base N x st f k sp) : Cal P w K mg base (L2.CX P w) (k + 1) x sp :=
  let ⟨f, fd, F, m⟩ := D.ex
  ⟨f, fd, ps, F.okX S len (hb f), m, F.kp, F.binds b⟩
theorem MetK.metX (D : MetK K C m qual st) (S : FnScope N ps (defScope st)) (b : BindOk m qual st ps) (len : ∀ vs H Q E, sp vs H Q E → vs.length = ps.length) (hb : ∀ f, BodyX P w K mg base N qual st f k sp) : Met P w K mg base (L2.CX P w) (k + 1) C m sp :=
  let ⟨f, fd, F, a, i⟩ := D.ex
  ⟨f, fd, ps, F.okX S len (hb f), a, i, F.kp, F.binds b⟩
end
/-! ### an exception class of the program with an own __init__ -/
structure Exn (P : Program) (w : World) (K : PySem.W.Frag) (mg : Str → Option Value) (base : Heap) (k : Nat) (x : Str) (C : Addr) (sp : Sp) : Prop where
  mg_ : mg x = some (.ref C)
  cls : OexC K C
  init : ∃ fI fd ps, FnOk P w K mg base CX0 k fI fd ps sp ∧ PySem.W.findIn K (.ref C) "__init__" = some (some (.ref fI)) ∧ PySem.W.typeIn K (.ref fI) = some (.type "function") ∧ Binds K fd ps []
theorem pmk_x {X : Cx} {k j : Nat} {C : Addr} {x : Str} {sp : Sp} {p pos : Pos} {e : Expr} {es : List Expr} {t : TA} (c : Exn X.prog X.w X.K X.mg X.base k x C sp) (hr : Room j X.A) (hk : k + 1 ≤ j) (hg : Gl X x) (ha : PA X (e :: es) t)
    (hdb : (x == ("__debug__" : Str)) = false := by decide) (he : starEach (e :: es) X.env = (false, eval e X.env) :: starEach es X.env := by rfl) (hpl : (backTo pos (starEach es X.env)).any (·.1) = false := by rfl) :
    PMk X (.Call (.Name x p) (e :: es) [] pos) (tMkO C sp [] t) := by
  obtain ⟨fI, fd, ps, F, a, ty, b⟩ := c.init
  exact pmk_oex c.cls a ty F (hr.mono hk) b .nil pass0 hg c.mg_ ha hdb he hpl

/-- __init__ that keeps its one argument in the field f -/
def spX (C : Addr) (f : Str) : Sp := fun vs H Q _ => ∃ a y, vs = [.ref a, y] ∧ H a = some (exo a C none) ∧ ∀ dx, H dx = none → dx ≠ a → Q .non (upd (upd H dx (exd dx [(f, y)])) a (exo a C (some dx)))
/-- .. called: the exception's dict is new, all else stays -/
theorem x_read {C : Addr} {f : Str} {y : V} {H : Hp} {Q : XK} (h : ∀ d, H d = none → Q (.ref C) (some d) (upd H d (.xd [(f, y)]))) : ([y] : List V).length ≤ 1000 ∧ ∀ a, H a = none → spX C f (.ref a :: ([y] ++ [])) (upd H a (exo a C none))
    (fun v H2 => v = .non ∧ ∃ (d : Addr) (fs : List (Str × V)), H2 a = some (exo a C (some d)) ∧ H2 d = some (exd d fs) ∧ H d = none ∧ Q (.ref C) (some d) (upd (del H2 a) d (.xd fs))) fun _ _ _ => False := by
  refine ⟨by show 1 ≤ 1000; decide, fun a na => ⟨a, y, rfl, upd_same, fun dx nd ne => ⟨rfl, dx, [(f, y)], upd_same, ?_, ?_, ?_⟩⟩⟩
  · rw [upd_ne ne, upd_same]
  · rw [upd_ne ne] at nd
    exact nd
  · have nd' : H dx = none := by rw [upd_ne ne] at nd; exact nd
    have e : upd (del (upd (upd (upd H a (exo a C none)) dx (exd dx [(f, y)])) a (exo a C (some dx))) a) dx (.xd [(f, y)]) = upd H dx (.xd [(f, y)]) := by
      funext b
      by_cases c1 : b = dx
      · rw [c1, upd_same, upd_same]
      · rw [upd_ne c1, upd_ne c1]
        by_cases c2 : b = a
        · rw [c2, del_same, na]
        · rw [del_ne c2, upd_ne c2, upd_ne c1, upd_ne c2]
    rw [e]
    exact h dx nd'
/-- what the class of a caught exception must say, for its fields and for isinstance -/
structure ExcK (K : PySem.W.Frag) (C : Addr) : Prop where
  xf : XfC K C
  ha : PySem.W.findIn K (.ref C) "__class__" = some (some (.builtin "object.__class__"))
  hn : PySem.W.specialIn K (.builtin "object.__class__") "__get__" = some (some (.builtin "getset_descriptor.__get__"))
  ht : PySem.W.takesIn K (.builtin "object.__class__") = some true
  hm : PySem.W.mroIn K C (.type "object") = some true
section
variable {X : Cx} {a C : Addr} {oe : Obj} {cls : Value} {d : Option Addr} {pn : List (Addr × Obj)}
/-- isinstance(e, c) of a caught exception with a dict -/
def rIsX (K : PySem.W.Frag) (cls : Value) (C a : Addr) (d : Option Addr) : List V → Hp → VK → Prop := fun xs H Q => ∃ (c : V) (cv : Value) (b : Bool) (dd : Addr) (fs : List (Str × V)), xs = [.ref a, c] ∧ cls = .ref C ∧ d = some dd ∧ H dd = some (.xd fs) ∧ (∀ u, RelV c u → u = cv) ∧ PySem.W.kitOne K (.ref C) cv = some b ∧ Q (.bl b) H
theorem exc_inst {pins : List (Addr × Obj)} {σ : L2.St} {H : Hp} {s : Shared} {dd : Addr} {fs : List (Str × V)} (I : Inv (X.suite a ((a, oe) :: pn)) pins σ H s) (hz : Zc (.ref C) (some dd) oe) (hf : ∃ vs, oe.data = .fields vs) (e : H dd = some (.xd fs)) : ∃ od, PySem.W.InstAt s.heap a oe C (some od) := by
  obtain ⟨mA, ns, _⟩ := I.hok dd _ e
  obtain ⟨od, at2, _⟩ := lookIn_ns ns
  obtain ⟨at1, _⟩ := I.pin (a, oe) (List.mem_append_left _ List.mem_cons_self)
  obtain ⟨vs, dt⟩ := hf
  exact ⟨od, at1, hz.1, by unfold PySem.W.notCls; rw [dt] <;> rfl, by rw [hz.2]; exact at2⟩
theorem call_isX (T : ExcK X.K C) (hz : Zc cls d oe) (hf : ∃ vs, oe.data = .fields vs) : CallR (X.suite a ((a, oe) :: pn)) (.builtin "isinstance") (rIsX X.K cls C a d) := by
  intro pins s σ H xs us Q I r h
  obtain ⟨c, cv, b, dd, fs, rfl, rfl, rfl, e, hc, k, q⟩ := h
  cases r with
  | cons r1 r2 =>
    cases r2 with
    | cons r3 r4 =>
      cases r4
      cases r1
      have ec := hc _ r3
      subst ec
      obtain ⟨od, J⟩ := exc_inst I hz hf e
      have cl : (PySem.W.clsIn X.K C).isSome = true := by
        obtain ⟨cd, z, _⟩ := PySem.W.any_some T.xf.hdC
        rw [z]; rfl
      exact PySem.W.kia_one (PySem.W.kitx_exc cl T.xf.ga T.xf.gg T.xf.exC T.ha T.hn T.ht T.hm) I.kIn J k (fun z => nomatch z) fun tk => ⟨.bl b, H, I.kept (t' := tk) fun _ _ z => z, rfl, q⟩
end
end Jg

/-! repr of any value that is data -/
namespace Jg
open PySem PySem.Spec PyProof.Rows L2
/-- v is shown as x -/
inductive Shw (K : PySem.W.Frag) (H : Hp) : V → Str → Prop
  | non : Shw K H .non "None"
  | bl (b : Bool) : Shw K H (.bl b) (if b then "True" else "False")
  | int (i : Int) (h : i.natAbs.log2 < 1920) : Shw K H (.int i) (toString i)
  | str (x : Str) (h : (reprText x).length ≤ sizeLine) : Shw K H (.str x) (reprText x)
  | dat {a : Addr} {d : PyData} (h : Dp K H (.ref a) d) (s : d.showable = true) (dp : d.depth ≤ 40) (z : d.shown.length ≤ sizeLine) : Shw K H (.ref a) d.shown
  | dnew {a : Addr} (h : H a = some (.dK [])) : Shw K H (.ref a) (PyData.dict []).shown
theorem Shw.keep {K : PySem.W.Frag} {H H' : Hp} {v : V} {x : Str} (s : Shw K H v x) (k : ∀ d, Dp K H v d → Dp K H' v d) (k2 : ∀ a, H a = some (.dK []) → H' a = some (.dK [])) : Shw K H' v x := by
  cases s with
  | non => exact .non
  | bl b => exact .bl b
  | int i h => exact .int i h
  | str x h => exact .str x h
  | dat h s dp z => exact .dat (k _ h) s dp z
  | dnew h => exact .dnew (k2 _ h)
def rShw (K : PySem.W.Frag) : List V → Hp → VK → Prop := fun xs H Q => ∃ v x, xs = [v] ∧ Shw K H v x ∧ Q (.str x) H
section
variable {X : Cx}
theorem dk_nil {P : Program} {w : World} {H : Hp} {h : Heap} {a : Addr} (ok : HOk P w H h) (e : H a = some (.dK [])) : ∃ as, Reads h (.ref a) (.dict []) as ∧ sysModules ∉ as := by
  obtain ⟨_, na, vs, kv, o, es, n, at_, ex, dt, _, pr, _⟩ := ok a _ e
  cases kv
  have e0 : es.toList = [] := by
    revert pr
    generalize es.toList = l
    intro pr
    cases pr
    rfl
  have r1 : ReadsAll h (es.toList.map (·.key)) (([] : List (PyData × PyData)).map (·.1)) [] := by rw [e0]; exact ReadsAll.nil
  have r2 : ReadsAll h (es.toList.map (·.val)) (([] : List (PyData × PyData)).map (·.2)) [] := by rw [e0]; exact ReadsAll.nil
  refine ⟨_, Reads.dict at_ ex.1 dt r1 r2, fun m => ?_⟩
  have z : sysModules = a := by simpa using m
  rw [← z] at na
  cases na
theorem call_shw (g : X.A.guards = some []) (hu : X.A.units + 64 < cLine) : CallR X (.builtin "repr") (rShw X.K) := by
  intro pins s σ H xs us Q I r h
  obtain ⟨v, x, rfl, sh, q⟩ := h
  obtain ⟨u, rfl, ru⟩ := vals1 r
  cases sh with
  | non => cases ru; exact PySem.P.repr_of_none ⟨.str _, H, I.tok _, ⟨_, rfl⟩, q⟩
  | bl b => cases ru; exact PySem.P.repr_of_bool ⟨.str _, H, I.tok _, ⟨_, rfl⟩, q⟩
  | int i hz => obtain ⟨t, rfl⟩ := ru; exact PySem.P.repr_of_int hz ⟨.str _, H, I.tok _, ⟨_, rfl⟩, q⟩
  | str y hz => obtain ⟨t, rfl⟩ := ru; exact PySem.P.repr_of_str ⟨.str _, H, I.tok _, ⟨_, rfl⟩, q⟩ hz
  | dat hd hs dp hz =>
    cases ru
    obtain ⟨as, R⟩ := Dp.reads I _ _ (.ref _) hd rfl
    exact repr_of_reads' R hs (PyData.noDict_hsm (noDict _ _ _ _ hd)) g (by omega) (fun _ _ e => e) (fun h' u tk hk => ⟨.str _, H, I.kept hk, ⟨_, rfl⟩, q⟩) hz
  | dnew e =>
    cases ru
    obtain ⟨as, R, na⟩ := dk_nil I.hok e
    have dp : (PyData.dict []).depth ≤ 40 := by decide +kernel
    exact repr_of_reads' R (by decide +kernel) (fun _ => na) g (by omega) (fun _ _ e => e) (fun h' u tk hk => ⟨.str _, H, I.kept hk, ⟨_, rfl⟩, q⟩) (by decide +kernel)
end
end Jg

namespace Jg
open PySem PySem.Spec PyProof.Rows L2
theorem bool_in {prog : Program} {w : World} (x : Value) : MeetsIn prog w (Builtin.«bool.__new__» ⟨[.type "bool", x], []⟩) fun A R s => wpAny (model prog w) A.in1 (truthy x) (fun b s' => R (.ok (.ret (.bool b))) s') (fun e s' => R (.error e) s') s := by
  intro A R s h
  have f1 := F.conv_sub_bool
  unfold Builtin.«bool.__new__»
  repeat (any_goals (first | assumption | wp_step))
  all_goals (show wpAny (model prog w) A.in1 (truthy x) _ _ s; exact wpAny_mono h (fun b s' z => wpAny_pure z) fun _ _ z => z)
/-- bool(x) of an instance with an own __bool__ -/
def rBoolO (C : Addr) (sp : Sp) (E : XK) : List V → Hp → VK → Prop := fun xs H Q => ∃ a dx fs, xs = [.ref a] ∧ H a = some (.ins C dx fs) ∧ sp [.ref a] H (fun v H' => ∃ b, v = .bl b ∧ Q (.bl b) H') E
theorem call_boolO {X : Cx} {k j : Nat} {C : Addr} {sp : Sp} (c : Met X.prog X.w X.K X.mg X.base CX0 k C "__bool__" sp) (hr : Room j X.A) (hk : k + 2 ≤ j) : CallR X (.type "bool") (rBoolO C sp E0) := by
  intro pins s σ H xs us Q I r h
  obtain ⟨a, dx, fs, rfl, ea, q⟩ := h
  obtain rfl := Vals.ref1 r
  obtain ⟨f, fd, ps, F, ini, fn, kp, b⟩ := c.ex
  obtain ⟨mA, J, _⟩ := ins_get I.hok ea
  obtain ⟨od, J, _⟩ := J.look
  obtain ⟨m, hF⟩ := I.fr
  have rv : Vals [V.ref a] [Value.ref a] := .cons rfl .nil
  have ln : [Value.ref a].length = ps.length := rv.length.symm.trans (F.len _ _ _ _ q)
  have bd := b s [Value.ref a] I.kIn (by rw [List.append_nil]; exact ln)
  rw [List.append_nil] at bd
  have rm : Room (k + 2) X.A := hr.mono hk
  have run := F.run X.A.in1.in1 X.stack s H ⟨[Value.ref a], []⟩ _ _ _ E0 rm.in1.in1 I.env0.in1.in1 bd rv q
  refine callType_newIn PySem.F.called_bool PySem.F.newNe_bool (PySem.F.typeCall_bool_1 _) (PySem.F.newCall_bool_1 _) (fun obj => PySem.F.args_object_init_2 obj _) PySem.F.entry_bool_new (bool_in _) ?_
  refine PySem.W.truthy_K hF I.ok.mod.kin J ini fn (wpAny_call (codeAny_mono run fun o s2 z => ?_))
  match o, z with
  | .error err, z => exact z.elim
  | .ok (.ret u), z =>
    obtain ⟨v, H2, J3, rv3, bb, rfl, q3⟩ := I.after z
    cases rv3
    exact ⟨PySem.typeIs_bool _ _, .bl bb, H2, J3, rfl, q3⟩
end Jg

/-! own exceptions over any built-in one; methods and classes with keywords that may raise, at the slots as they stand -/
namespace Jg
open PySem PySem.Spec PyProof.Rows L2

/-- the class at C stands over the built-in exception B -/
structure OvB (K : PySem.W.Frag) (C : Addr) (B nid iid : String) (line : List Value) : Prop where
  fB : ExcBaseFacts B nid iid line
  sB : StoreFacts B line "object.__setattr__" "object"
  ini : PySem.W.excInitIn K C line nid = true
  ovr : PySem.W.excOver K C line = true
  hd : PySem.W.hasDictIn K C = true
  sa : PySem.W.findIn K (.ref C) "__setattr__" = some (some (.builtin "object.__setattr__"))
  exC : PySem.W.subIn K (.ref C) (.type "BaseException") = some true
  tyC : PySem.W.typeIn K (.ref C) = some (.type "type")
  kC : PySem.W.keepIn K (.ref C) = true
def Ovr (K : PySem.W.Frag) (C : Addr) : Prop := ∃ B nid iid line, OvB K C B nid iid line
theorem taker0 {K : PySem.W.Frag} {C : Addr} {f : Str} (h : PySem.W.findIn K (.ref C) f = some none) : PySem.W.takerIn K C f = some none := by
  unfold PySem.W.takerIn
  rw [h]
  rfl
section
variable {X : Cx} {pins : List (Addr × Obj)} {σ : L2.St} {H : Hp} {s : Shared} {a C : Addr} {f : Str} {y : V} {u : Value} {Q : Unit → Shared → Prop} {E : Value → Shared → Prop} {A : Around}
/-- the first field of an exception that is being made: its dict comes to be -/
theorem keep_first (T : Ovr X.K C) (I : Inv X pins σ H s) (e : H a = some (exo a C none)) (no : PySem.W.findIn X.K (.ref C) f = some none) (ry : RelV y u)
    (h : ∀ dx s', H dx = none → dx ≠ a → Inv X pins σ (upd (upd H dx (exd dx [(f, y)])) a (exo a C (some dx))) s' → Q () s') : wpAny (model X.prog X.w) A (setAttr (.ref a) f u) Q E s := by
  obtain ⟨B, nid, iid, line, T⟩ := T
  obtain ⟨t1, ho⟩ := exo_at I.hok e
  obtain ⟨cd, hc, hdd⟩ := PySem.W.any_some T.hd
  have kin := I.kIn
  obtain ⟨hp, g, d, t, os⟩ := s
  refine PySem.W.set_plain (ox := PySem.W.excObj C t1 none .none) (od := none) kin ⟨ho, rfl, rfl, trivial⟩ T.sa ?_
  refine PySem.W.osa_openX (od := none) T.sB kin ⟨ho, rfl, rfl, trivial⟩ T.ovr (taker0 no) fun b => ?_
  refine wpAny_bind (wpAny_pure (wpAny_bind (PySem.W.instanceDict_exc ho (PySem.W.looks_clsIn kin hc) hdd ?_)))
  have below : a < hp.objs.size := Heap.lt_size ho
  have apart : a ≠ hp.objs.size := Nat.ne_of_lt below
  have ho2 : (hp.push (PySem.W.dictOf [] 0)).get? a = some (PySem.W.excObj C t1 none .none) := Heap.get?_push_of_some _ ho
  show wpAny _ _ (Builtin.ObjectAttr.storeInDict hp.objs.size (.str f _) f u) _ _ _
  refine HandSPX.store_in_new ⟨_, #[], _, (Heap.get?_update_ne _ _ _ _ apart.symm).trans (Heap.get?_push_at rfl rfl), rfl, fun _ z => absurd z (by simp), fun _ => rfl⟩ fun h2 tk2 ns1 same => ?_
  -- the dict first, then the exception
  obtain ⟨od, es, ep, hod, rest⟩ := id ns1
  have ha2 : h2.get? a = some (PySem.W.excObj C t1 (some hp.objs.size) .none) := (same.2 a apart).trans (Heap.get?_update_self _ ho2 rfl)
  have stays : ∀ c o, c ≠ a → hp.get? c = some o → h2.get? c = some o := fun c o n z =>
    (same.2 c (Nat.ne_of_lt (Heap.lt_size z))).trans ((Heap.get?_update_ne _ _ _ _ n).trans (Heap.get?_push_of_some _ z))
  have nd : H hp.objs.size = none := I.hok.fresh (Nat.le_refl _)
  have fr : od.isFreed = false := (Heap.get?_some_iff.mp hod).2
  have hg : (hp.push od).get? hp.objs.size = some od := Heap.get?_push_at rfl fr
  have I1 : Inv X pins σ (upd H hp.objs.size (exd hp.objs.size [(f, y)])) ⟨hp.push od, g, d, t, os⟩ :=
    I.laid (a := hp.objs.size) (t' := t) (o := exd hp.objs.size [(f, y)]) (h' := hp.push od) (fun c o z => Heap.get?_push_of_some _ z) (Nat.le_refl _)
      (exd_ok (ns1.at fun o z => by rw [hod] at z; cases z; exact hg) (relO_put (fs := []) ry fun _ => True.intro))
  have e1 : upd H hp.objs.size (exd hp.objs.size [(f, y)]) a = some (exo a C none) := by rw [upd_ne apart]; exact e
  have I2 := I1.write (x := a) (e := a) (t' := tk2) (h' := h2) (o := exo a C (some hp.objs.size)) (by rw [e1]; exact True.intro) (.inl rfl)
    (fun c o n z => by
      by_cases k : c = hp.objs.size
      · subst k
        rw [hg] at z
        cases z
        exact hod
      · have z' : hp.get? c = some o := by
          rw [Heap.get?_push_ne _ _ _ k] at z
          exact z
        exact stays c o n z') ⟨_, ha2⟩ (exo_ok ha2)
  exact h _ _ nd apart.symm I2
end
/-- self.f = e in an exception's __init__ -/
def tKeep (K : PySem.W.Frag) (f : Str) (to te : TE) : TS := fun D σ H => te σ H fun y H1 => to σ H1 fun x H2 => ∃ a C : Addr, x = .ref a ∧ Ovr K C ∧ PySem.W.findIn K (.ref C) f = some none ∧
  H2 a = some (exo a C none) ∧ ∀ dx, H2 dx = none → dx ≠ a → D.nx σ (upd (upd H2 dx (exd dx [(f, y)])) a (exo a C (some dx)))
theorem ps_keep {X : Cx} {o e : Expr} {to te : TE} {f : Str} {p' pos : Pos} (ho : PE X o to) (he : PE X e te) (hs : swapsWith e (some (.Attribute o f p')) pos.line X.env = pure false := by rfl) : PS X (.Assign [.Attribute o f p'] e pos) (tKeep X.K f to te) :=
  ⟨fun pins s σ H D I h => plainObj_wpAny_Assign_Attribute (thn (he.run pins s σ H _ I h) fun v s1 ⟨y, H1, I1, r1, q1⟩ => thn (ho.run pins s1 σ H1 _ I1 q1) fun u s2 ⟨x, H2, I2, r2, a, C, ex, T, no, ea, q⟩ => by
    subst ex
    obtain rfl : u = Value.ref a := r2
    exact keep_first T I2 ea no r1 fun dx s' n ne J => ⟨σ, _, J, q dx n ne⟩) hs⟩
/-- an exception class of the program with an own __init__, over any built-in one -/
structure ExnB (P : Program) (w : World) (K : PySem.W.Frag) (mg : Str → Option Value) (base : Heap) (k : Nat) (x : Str) (C : Addr) (sp : Sp) : Prop where
  mg_ : mg x = some (.ref C)
  cls : Ovr K C
  init : ∃ fI fd ps, FnOk P w K mg base CX0 k fI fd ps sp ∧ PySem.W.findIn K (.ref C) "__init__" = some (some (.ref fI)) ∧ PySem.W.typeIn K (.ref fI) = some (.type "function") ∧ Binds K fd ps []
theorem pmk_b {X : Cx} {k j : Nat} {C : Addr} {x : Str} {sp : Sp} {p pos : Pos} {e : Expr} {es : List Expr} {t : TA} (c : ExnB X.prog X.w X.K X.mg X.base k x C sp) (hr : Room j X.A) (hk : k + 1 ≤ j) (hg : Gl X x) (ha : PA X (e :: es) t)
    (hdb : (x == ("__debug__" : Str)) = false := by decide) (he : starEach (e :: es) X.env = (false, eval e X.env) :: starEach es X.env := by rfl) (hpl : (backTo pos (starEach es X.env)).any (·.1) = false := by rfl) :
    PMk X (.Call (.Name x p) (e :: es) [] pos) (tMkO C sp [] t) := by
  obtain ⟨fI, fd, ps, F, at_, ty, b⟩ := c.init
  obtain ⟨B, nid, iid, line, T⟩ := c.cls
  intro pins s σ H Q I h
  refine wpAny_Call_Name_kw (ld_glob I hg c.mg_ (PySem.W.callWith_K (h₀ := X.base) I.ok.mod.kin T.kC (thn (ha.run pos pins s σ H _ I h) fun us s1 ⟨vs, H1, J, rs, short, go⟩ => ⟨J.kIn, ?_⟩) he hpl) hdb)
  obtain ⟨nm, N, qn, bs, bm, hdct, sn, sub, ab, col, dd, k0, k1, k2, k3, k5, hC, same⟩ := PySem.W.excInit_of J.kIn T.ini
  obtain ⟨hp, g, dr, tk, os⟩ := s1
  let n := hp.objs.size
  let h2 := (hp.push (PySem.W.kdv_tup us)).push (HandSPX.excO C n)
  have grown : ∀ b o, hp.get? b = some o → h2.get? b = some o := fun b o z => Heap.get?_push_of_some _ (Heap.get?_push_of_some _ z)
  have here : h2.get? (n + 1) = some (HandSPX.excO C n) := by
    show ((hp.push (PySem.W.kdv_tup us)).push (HandSPX.excO C hp.objs.size)).get? (hp.objs.size + 1) = some (HandSPX.excO C hp.objs.size)
    heap_get
  have hole : H1 (n + 1) = none := J.hok.fresh (Nat.le_succ _)
  have q0 := go (n + 1) hole
  have J2 : Inv X pins σ (upd H1 (n + 1) (exo (n + 1) C none)) ⟨h2, g, dr, tk, os⟩ := J.laid (t' := tk) (a := n + 1) (h' := h2) grown (Nat.le_succ _) (exo_ok here)
  have rel : Vals (V.ref (n + 1) :: (vs ++ [])) (Value.ref (n + 1) :: (us ++ [])) := .cons rfl (rs.append .nil)
  have many : (Value.ref (n + 1) :: us ++ []).length = ps.length := rel.length.symm.trans (F.len _ _ _ _ q0)
  have fits : us.length ≤ sizeLine := by
    have z := Paired.length rs
    rw [sizeLine_eq]
    omega
  have run := F.run _ X.stack _ _ ⟨Value.ref (n + 1) :: us, []⟩ _ _ _ (fun _ _ _ => False) ((hr.mono hk).make C us []) (J2.env0.make C us []) (b _ (Value.ref (n + 1) :: us) J2.kIn many) rel q0
  show wpAny _ _ (call (.ref C) us) _ _ _
  refine wpAny_call (HandSPX.call_own T.fB same hC (PySem.W.looks_findIn J.kIn at_) (fun self => PySem.W.bind_fn J.kIn self ty) fits (codeAny_mono run fun o s2 z => ?_))
  match o, z with
  | .error err, z => exact (pass0 : Passes CX0 X _) pins σ _ _ err s2 J2 z
  | .ok (.ret u), ⟨v, H2, os2, bare2, un2, hok2, rv, ev, d, fs, ea, ed, nd, q2⟩ =>
    subst ev
    exact ⟨rv, mk_end (raises_own T.exC T.tyC) J (Nat.le_succ _) grown un2 hok2 os2 bare2 ea ed nd q2⟩

/-! ### o.m(e, ..) that may raise -/
def tMethS (C : Addr) (m : Str) (sp : Sp) (E : L2.St → XK) (ta : TE) (t : TA) : TE := fun σ H Q => ta σ H fun x H1 => ∃ a dx fs, x = .ref a ∧ H1 a = some (.ins C dx fs) ∧ fs.lookup m = none ∧ t σ H1 fun vs H2 => sp (.ref a :: vs) H2 Q (E σ)
section
variable {X : Cx} {k j : Nat} {C : Addr} {x m : Str} {sp : Sp} {W : WX} {p pos apos : Pos} {e o : Expr} {es : List Expr} {ta : TE} {t : TA}
theorem pe_mS {pl : Sem Bool} (c : Met X.prog X.w X.K X.mg X.base (L2.CX X.prog X.w) k C m sp) (cl : Cls X.K C) (tk : Takes X W) (hr : Room j X.A) (hk : k ≤ j) (he : PE X o ta) (ha : PA X (e :: es) t)
    (hst : starEach (e :: es) X.env = (false, eval e X.env) :: starEach es X.env := by rfl) (hpl : (backTo pos (starEach es X.env)).any (·.1) = false := by rfl)
    (ht : eval (.Call (.Attribute o m apos) (e :: es) [] pos) X.env = (do
      let ov ← eval o X.env
      standAt apos.atName
      let (f, first) ← holding [ov] (getMethod ov m pl)
      callWith pos f first (backTo pos (starEach (e :: es) X.env)) (backToKw pos (keywordEach [] X.env))) := by rfl) :
    PE X (.Call (.Attribute o m apos) (e :: es) [] pos) (tMethS C m sp (WE W) ta t) := by
  obtain ⟨f, fd, ps, F, at_, i, kp, b⟩ := c.ex
  refine ⟨fun pins s σ H Q I h => PySem.W.methodCall_KW (pl := pl) (thn (he.run pins s σ H _ I h) fun u s1 ⟨x, H1, I1, rx, a, dx, fs, ex, ea, l, q⟩ => ?_) ht⟩
  subst ex
  obtain rfl : u = Value.ref a := rx
  refine getmeth_ok I1 ea cl ⟨at_, i, kp⟩ l (PySem.W.callWith_K (first := [.ref a]) (h₀ := X.base) I.ok.mod.kin kp (thn (ha.run pos pins s1 σ H1 _ I1 q) fun us s2 ⟨vs, H2, I2, r, q2⟩ => ⟨I2.kIn, ?_⟩) hst hpl)
  exact run_fnS (E := WE W) (us := .ref a :: us) (vs := .ref a :: vs) F (hr.mono hk) b (passAt tk σ) I2 (.cons rfl r) q2
end
/-! ### C(k = v, ..) -/
/-- __init__ with keyword-only parameters, as the top leaves it -/
structure IniK (K : PySem.W.Frag) (C : Addr) (qual : Str) (st : Stmt) (kws : List (Str × V)) : Prop where
  ex : ∃ f fd, FunD K "__init__" qual (defArgs st) (defBody st) (defScope st) [] kws f fd ∧ PySem.W.findIn K (.ref C) "__init__" = some (some (.ref f)) ∧ PySem.W.isFn K (.ref f) = true
theorem IniK.of {K : PySem.W.Frag} {C : Addr} {qual : Str} {st : Stmt} {f : Addr} {oc : Value} {od an : Option Addr} {osl : Array (Option Value)} {kV doc pm cdv ct : Value} {kws : List (Str × V)}
    (a : PySem.W.findIn K (.ref C) "__init__" = some (some (.ref f))) (i : PySem.W.isFn K (.ref f) = true) (l : K.lookup f = some ⟨oc, od, .func (PySem.W.fnOf "__init__" qual (defArgs st) (defBody st) (defScope st) .none kV doc pm an cdv ct), osl⟩)
    (c : PySem.W.codeIn K cdv qual = true) (k : PySem.W.keepIn K (.ref f) = true) (kw : KwdV K kV kws) : IniK K C qual st kws := ⟨f, _, ⟨⟨oc, od, .none, kV, doc, pm, an, cdv, ct, osl, rfl, l, c, .inl ⟨rfl, rfl⟩, kw⟩, k⟩, a, i⟩
structure MakW (P : Program) (w : World) (K : PySem.W.Frag) (mg : Str → Option Value) (base : Heap) (CX : CXT) (k : Nat) (x : Str) (C : Addr) (ks : List Str) (gV : List V → List V → List V) (sp : Sp) : Prop where
  mg_ : mg x = some (.ref C)
  mks : PySem.W.makesIn K C = true
  kp : PySem.W.keepIn K (.ref C) = true
  ex : ∃ f fd ps g, FnOk P w K mg base CX k f fd ps sp ∧ PySem.W.findIn K (.ref C) "__init__" = some (some (.ref f)) ∧ PySem.W.isFn K (.ref f) = true ∧ KBn K fd ps 1 ks g gV
def tMakeKS (C : Addr) (m : Nat) (sp : Sp) (gV : List V → List V → List V) (E : L2.St → XK) (tk : TA) : TE := fun σ H Q => tk σ H fun zs H2 => zs.length = m ∧ ∀ x dx, H2 x = none → H2 dx = none → dx ≠ x →
  sp (gV [.ref x] zs) (upd (upd H2 dx (.own x)) x (.ins C dx [])) (fun v H3 => v = .non ∧ Q (.ref x) H3) (E σ)
section
variable {X : Cx} {k j : Nat} {C : Addr} {ks : List Str} {sp : Sp} {x : Str} {p pos : Pos} {kws : List Keyword} {ta : TA} {gV : List V → List V → List V} {W : WX}
theorem pe_mkKS (c : MakW X.prog X.w X.K X.mg X.base (L2.CX X.prog X.w) k x C ks gV sp) (tk : Takes X W) (hr : Room j X.A) (hk : k + 1 ≤ j) (hg : Gl X x) (hkw : PK X kws ta)
    (hall : (backToKw pos (keywordEach kws X.env)).all (·.1.isSome) = true := by rfl) (hks : (backToKw pos (keywordEach kws X.env)).filterMap (·.1) = ks := by rfl) (hdb : (x == ("__debug__" : Str)) = false := by decide)
    (hpl : ((backTo pos (starEach [] X.env)).any (·.1) || (backToKw pos (keywordEach kws X.env)).any (·.1.isNone)) = false := by rfl) :
    PE X (.Call (.Name x p) [] kws pos) (tMakeKS C ks.length sp gV (WE W) ta) := by
  obtain ⟨f, fd, ps, g, F, ini, fn, b⟩ := c.ex
  refine ⟨fun pins s σ H Q I h => wpAny_Call_Name_kw (ld_glob I hg c.mg_ (PySem.W.callWith_KW0 (h₀ := X.base) I.ok.mod.kin c.kp hall ?_ hpl) hdb)⟩
  refine thn (hkw.run pos pins s σ H _ I h) fun ws s2 ⟨zs, H2, J, rz, ln, q⟩ => ⟨J.kIn, ?_⟩
  rw [hks]
  let n := s2.heap.objs.size
  have q1 := q (n + 1) n (J.hok.fresh (Nat.le_succ _)) (J.hok.fresh (Nat.le_refl _)) (Nat.ne_of_lt (Nat.lt_succ_self _))
  have J2 := Inv.made (C := C) J
  have r1 : Vals [V.ref (n + 1)] [Value.ref (n + 1)] := .cons rfl .nil
  have run := F.run _ X.stack _ _ ⟨[Value.ref (n + 1)], ks.zip ws⟩ _ _ _ (WE W σ) ((hr.mono hk).make C [] (ks.zip ws)) (J2.env0.make C [] (ks.zip ws)) (b.to _ [Value.ref (n + 1)] ws J2.kIn rfl (rz.length.symm.trans ln)) (b.rel r1 rz) q1
  show wpAny (model X.prog X.w) X.A (call (.ref C) [] (ks.zip ws)) (EP X pins σ Q) X.xe s2
  refine wpAny_call (make_map (f := f) J.kIn c.mks ini (beq_iff_eq.mp fn) (codeAny_mono run fun o s3 z => ?_))
  match o, z with
  | .error err, z => exact passAt tk σ pins _ _ err s3 J2 z
  | .ok (.ret u), z =>
    obtain ⟨v, H3, J3, rv, ev, q3⟩ := J2.after z
    subst ev
    exact ⟨rv, V.ref (n + 1), H3, J3, rfl, q3⟩
end
section
variable {P : Program} {w : World} {K : PySem.W.Frag} {mg : Str → Option Value} {base : Heap} {k : Nat} {C : Addr} {x qual : Str} {st : Stmt} {N ps ks : List Str} {kws : List (Str × V)} {sp : Sp}
theorem IniK.mak (D : IniK K C qual st kws) (m : mg x = some (.ref C)) (mk : PySem.W.makesIn K C = true) (kp : PySem.W.keepIn K (.ref C) = true) (S : FnScope N ps (defScope st)) (len : ∀ vs H Q E, sp vs H Q E → vs.length = ps.length)
    (ms : List (Str × V)) (g : {α : Type} → List α → List α → List α → List α) (hk : kws ≠ []) (hms : ∀ q ∈ ms, q ∈ kws) (hrel : ∀ {vs mz zs : List V} {us mv ws : List Value}, Vals vs us → Vals mz mv → Vals zs ws → Vals (g vs mz zs) (g us mv ws))
    (hb : ∀ (D : Addr) (doc pm : Value) (an : Option Addr) (cdv ct : Value) (us mv ws : List Value), us.length = 1 → mv.length = ms.length → ws.length = ks.length →
      KwChain D ((ms.map (·.1)).zip mv) (bindArgs (PySem.W.fnOf "__init__" qual (defArgs st) (defBody st) (defScope st) .none (.ref D) doc pm an cdv ct) ⟨us, ks.zip ws⟩) (ps.zip (g us mv ws)))
    (body : ∀ f, BodyX P w K mg base N qual st f k sp) : MakW P w K mg base (L2.CX P w) (k + 1) x C ks (fun vs zs => g vs (ms.map (·.2)) zs) sp :=
  let ⟨f, fd, F, a, i⟩ := D.ex
  let ⟨mv, b⟩ := F.kbinds0 1 ks ms g hk hms hrel hb
  ⟨m, mk, kp, f, fd, ps, _, F.ok S len (body f), a, i, b⟩
end
end Jg

/-! x != y by an own ==; == of data, {} among it -/
namespace Jg
open PySem PySem.Spec PyProof.Rows L2 PySem.W
section
variable {prog : Program} {w : World} {A : Around} {E : Value → Shared → Prop} {s : Shared} {K : Frag} {x C f : Addr} {ox : Obj} {od : Option Obj} {b tb : Value}
theorem ne_entry {Q : Fin → Shared → Prop} (hu : A.units < cLine) (X : K.In s.heap) (I : InstAt s.heap x ox C od) (eq : findIn K (.ref C) "__eq__" = some (some (.ref f))) (fn : isFn K (.ref f) = true)
    (h : wpAny (model prog w) A (call (.ref f) [.ref x, b]) (fun v s' => ∃ c, v = .bool c ∧ Q (.done (.ret (.bool (!c)))) s') E s) : wpAny (model prog w) A (Builtin.«object.__ne__» ⟨[.ref x, b], []⟩) Q E s := by
  unfold Builtin.«object.__ne__»
  refine wpAny_bind (wpAny_of_eq (a := ((Value.ref x : Value), [b])) (by first | rfl | (simp only [slotArgs]; rfl)) ?_)
  refine wpAny_bind (wpAny_cRoomFor hu ?_)
  refine wpAny_bind (ifBound_K (args := [b]) X I eq fn (wpAny_mono h (fun v s' z => ?_) fun _ _ z => z))
  obtain ⟨c, rfl, q⟩ := z
  refine wpAny_bind (wpAny_truthy_bool ?_)
  exact wpAny_pure q
theorem ne_K {Q : Value → Shared → Prop} (hu : A.units + 1 < cLine) (X : K.In s.heap) (I : InstAt s.heap x ox C od) (hb : Looks (model prog w) s.heap (typeOf b) tb) (hn : notFirst K C tb = true)
    (ne : findIn K (.ref C) "__ne__" = some (some (.builtin "object.__ne__"))) (mro : mroIn K C (.type "object") = some true) (eq : findIn K (.ref C) "__eq__" = some (some (.ref f))) (fn : isFn K (.ref f) = true)
    (h : wpAny (model prog w) A.in1 (call (.ref f) [.ref x, b]) (fun v s' => ∃ c, v = .bool c ∧ Q (.bool (!c)) s') E s) : wpAny (model prog w) A (richCompare .NotEq (.ref x) b) Q E s := by
  have isO : Looks (model prog w) s.heap (isInstance (.ref x) (.type "object")) true := I.type.andThen (looks_mroIn X mro)
  have one : wpAny (model prog w) A (tryCompare (.ref x) (cmpInfo .NotEq).2.1 b) (fun r s' => ∃ v, r = some v ∧ Q v s') E s := by
    unfold tryCompare
    refine wpAny_bind ?_
    show wpAny _ _ (callSpecialIfBound? (.ref x) "__ne__" [b]) _ _ _
    simp only [callSpecialIfBound?, bindSpecialIfBound?]
    refine wpAny_holding (wpAny_bind (wpAny_bind (wpAny_bind (I.type.here ((looks_findIn X ne).here ?_)))))
    refine wpAny_bind (wpAny_askSetting (wpAny_ite ?_))
    have fin : ∀ R : Option Value → Shared → Prop, (∀ c s', Q (.bool (!c)) s' → R (some (.bool (!c))) s') → wpAny (model prog w) A (call (.builtin "object.__ne__") ([.ref x] ++ [b]) >>= fun v => pure (some v)) R E s := by
      intro R hR
      refine wpAny_bind (wpAny_call (codeAny_call_builtin F.cmp_object.ne.plain F.cmpEntry_ne (check_slot F.cmpKind_ne F.cmpSplit_ne isO (F.cmpArgs_ne _ _) ?_)))
      refine ne_entry (A := A.in1) hu X I eq fn (wpAny_mono h (fun v s' z => ?_) fun _ _ z => z)
      obtain ⟨c, rfl, q⟩ := z
      exact ⟨c, rfl, wpAny_pure (hR c s' q)⟩
    rw [F.cmp_object.ne.bind (.ref x)]
    split
    · refine wpAny_bind (wpAny_pure (wpAny_pure ?_))
      exact fin _ fun c s' q => wpAny_pure ⟨_, rfl, q⟩
    · refine wpAny_tryCatch (wpAny_bind (wpAny_pure (wpAny_pure ?_)))
      exact fin _ fun c s' q => wpAny_pure ⟨_, rfl, q⟩
  unfold richCompare
  simp only [oneThing_ref]
  refine wpAny_holding (wpAny_bind (wpAny_cRoomFor (Nat.lt_of_succ_lt hu) ?_))
  refine wpAny_bind (I.type.here (wpAny_bind (hb.here ?_)))
  have fin : ∀ s', (∃ v, (∃ r, r = some v ∧ Q v s')) → True := fun _ _ => trivial
  split
  · rename_i q
    have e : subIn K tb (.ref C) = some false := by
      rcases Bool.or_eq_true_iff.mp hn with e | e
      · rw [beq_iff_eq.mp e] at q; simp at q
      · exact beq_iff_eq.mp e
    refine wpAny_bind ((looks_subIn X e).here ?_)
    simp only [Bool.false_eq_true, if_false]
    refine wpAny_bind (wpAny_mono one (fun r s' ⟨v, e, hq⟩ => ?_) fun _ _ e => e)
    subst e
    exact wpAny_pure hq
  · refine wpAny_bind (wpAny_pure ?_)
    simp only [Bool.false_eq_true, if_false]
    refine wpAny_bind (wpAny_mono one (fun r s' ⟨v, e, hq⟩ => ?_) fun _ _ e => e)
    subst e
    exact wpAny_pure hq
end
/-- x != y by the own == of x -/
def rOwnNe (K : PySem.W.Frag) (C : Addr) (sp : Sp) (E : XK) : R2 := fun x y H Q => ∃ a dx fs t, x = .ref a ∧ H a = some (.ins C dx fs) ∧ TyX K H y t ∧ PySem.W.notFirst K C t = true ∧ sp [.ref a, y] H (fun v H' => ∃ c, v = .bl c ∧ Q (.bl (!c)) H') E
theorem op_ne_c {X : Cx} {k j : Nat} {C : Addr} {sp : Sp} (c : Met X.prog X.w X.K X.mg X.base CX0 k C "__eq__" sp) (ne : PySem.W.findIn X.K (.ref C) "__ne__" = some (some (.builtin "object.__ne__"))) (mro : PySem.W.mroIn X.K C (.type "object") = some true) (hr : Room j X.A) (hk : k + 1 ≤ j) :
    OpR X (compareOp .NotEq) (rOwnNe X.K C sp E0) := by
  intro pins s σ H x y v u Q I rx ry h
  obtain ⟨f, fd, ps, F, a0, i0, kp, bd⟩ := c.ex
  obtain ⟨a, dx, fs, t, rfl, ha, ty, nf, q⟩ := h
  cases rx
  obtain ⟨mA, J, _⟩ := ins_get I.hok ha
  obtain ⟨od, J, _⟩ := J.look
  obtain ⟨P, Z, p, _⟩ := kit_of I ry ty
  have rm : Room (k + 1) X.A := hr.mono hk
  show wpAny _ _ (richCompare .NotEq (.ref a) u) _ _ _
  have ln : [Value.ref a, u].length = ps.length := (Paired.length (show Vals [V.ref a, y] [Value.ref a, u] from .cons rfl (.cons ry .nil))).symm.trans (F.len _ _ _ _ q)
  have bb := bd s [Value.ref a, u] I.kIn (by rw [List.append_nil]; exact ln)
  rw [List.append_nil] at bb
  have rr : Vals [V.ref a, y] [Value.ref a, u] := .cons rfl (.cons ry .nil)
  have run := F.run X.A.in1 X.stack s H ⟨[Value.ref a, u], []⟩ _ _ _ E0 rm.in1 I.env0.in1 bb rr q
  refine ne_K (tb := t) (Nat.lt_of_le_of_lt (by omega) hr.units) I.kIn J (Z.ty _ _ I.kIn p) nf ne mro a0 i0 (wpAny_call (codeAny_mono run fun o s2 z => ?_))
  match o, z with
  | .error err, z => exact z.elim
  | .ok (.ret u2), z =>
    obtain ⟨v3, H2, J3, rv3, cc, rfl, q3⟩ := I.after z
    cases rv3
    exact ⟨_, rfl, .bl _, H2, J3, rfl, q3⟩
/-- data, {} among it -/
def DpX (K : PySem.W.Frag) (H : Hp) (v : V) (d : PyData) : Prop := Dp K H v d ∨ ∃ a, v = .ref a ∧ H a = some (.dK []) ∧ d = .dict []
theorem DpX.reads {X : Cx} {pins : List (Addr × Obj)} {σ : L2.St} {H : Hp} {s : Shared} (I : Inv X pins σ H s) {d : PyData} {v : V} {u : Value} (h : DpX X.K H v d) (r : RelV v u) : ∃ as, Reads s.heap u d as := by
  rcases h with h | ⟨a, rfl, e, rfl⟩
  · exact Dp.reads I d v u h r
  · cases r
    obtain ⟨as, z, _⟩ := dk_nil I.hok e
    exact ⟨as, z⟩
def rEqX (K : PySem.W.Frag) : R2 := fun x y H Q => ∃ d e, DpX K H x d ∧ DpX K H y e ∧ SeqAt.shaped d = true ∧ SeqAt.shaped e = true ∧ Q (.bl (PyData.eqv d e)) H
theorem op_eqX {X : Cx} (hu : X.A.units + 64 < cLine) : OpR X (compareOp .Eq) (rEqX X.K) := by
  intro pins s σ H x y v u Q I rx ry h
  obtain ⟨d, e, hd, he, sd, se, q⟩ := h
  obtain ⟨as, r1⟩ := hd.reads I rx
  obtain ⟨bs, r2⟩ := he.reads I ry
  exact SeqAt.compareEq_shaped r1 r2 sd se hu ⟨.bl _, H, I, rfl, q⟩
/-! ### {} == 'text' -/
section
variable {prog : Program} {w : World} {A : Around} {E : Value → Shared → Prop} {s : Shared}
theorem str_no_dict {z : Str} {u : Tok} {d : Addr} {o : Obj} {es : Array DictEntry} {n : Nat} (Q : Value → Shared → Prop) (at_ : s.heap.get? d = some o) (c : o.cls = .type "dict") (hd : o.data = .dict es n) (q : Q .notImplemented s) :
    wpAny (model prog w) A (call (.builtin "str.__eq__") [.str z u, .ref d]) Q E s := by
  refine wpAny_call (codeAny_call_builtin F.slot_str_eq.plain F.entry_str_eq (F.slot_str_eq.check _ _ _ _ _ _ _ _ (typeIs_str s z u) (F.args_str_eq_2 _ _) ?_))
  obtain ⟨oc, od, dt, sl⟩ := o
  subst c hd
  obtain ⟨h0, g0, d0, t0, os0⟩ := s
  wp_walk using wpAny_loadPart' at_, wpAny_load at_
  first
    | exact q
    | exact ⟨_, rfl, q⟩
theorem dict_no_str {z : Str} {u : Tok} {d : Addr} {o : Obj} (Q : Value → Shared → Prop) (at_ : s.heap.get? d = some o) (c : o.cls = .type "dict") (q : Q .notImplemented s) :
    wpAny (model prog w) A (call (.builtin "dict.__eq__") [.ref d, .str z u]) Q E s := by
  have ty : s.TypeIs (.ref d) "dict" := ⟨_, at_, c⟩
  refine wpAny_call (codeAny_call_builtin F.slot_dict_eq.plain F.entry_dict_eq (F.slot_dict_eq.check _ _ _ _ _ _ _ _ ty (F.args_dict_eq_2 _ _) ?_))
  refine wpAny_bind ?_
  unfold Builtin.Dict.dictSlotArgs
  refine wpAny_bind (wpAny_notOrdered_dict ty ?_)
  refine wpAny_pure ?_
  refine wpAny_bind (wpAny_isInstance (T := "str") (typeIs_str s z u) F.sub_str_dict ?_)
  simp only [Bool.not_false, if_true]
  refine wpAny_bind (wpAny_rule ?_)
  first
    | exact wpAny_bind (wpAny_pure (wpAny_pure q))
    | exact wpAny_bind (wpAny_bind (wpAny_pure (wpAny_pure q)))
    | exact wpAny_pure q
theorem eq_dict_str {z : Str} {u : Tok} {d : Addr} {o : Obj} {es : Array DictEntry} {n : Nat} {Q : Value → Shared → Prop} (at_ : s.heap.get? d = some o) (c : o.cls = .type "dict") (hd : o.data = .dict es n) (hu : A.units < cLine) (q : Q (.bool false) s) :
    wpAny (model prog w) A (compareOp .Eq (.ref d) (.str z u)) Q E s :=
  SeqAt.rc_eq_decline_or (k := false) ⟨_, at_, c⟩ (typeIs_str s z u) (by decide) F.sub_str_dict F.slot_dict_eq F.slot_str_eq_refl
    (fun Q' h => dict_no_str Q' at_ c h) (fun Q' h => str_no_dict Q' at_ c hd h) (fun Q' h => wpAny_of_eq (rfl : isSame (.ref d) (.str z u) = pure false) h) (.inr hu) q
end
def rEqY (K : PySem.W.Frag) : R2 := fun x y H Q => rEqD K x y H Q ∨ ∃ a z, x = .ref a ∧ y = .str z ∧ H a = some (.dK []) ∧ Q (.bl false) H
theorem op_eqY {X : Cx} (hu : X.A.units + 64 < cLine) : OpR X (compareOp .Eq) (rEqY X.K) := by
  intro pins s σ H x y v u Q I rx ry h
  rcases h with h | ⟨a, z, rfl, rfl, e, q⟩
  · exact op_eqD hu pins s σ H x y v u Q I rx ry h
  · cases rx
    obtain ⟨t, rfl⟩ := ry
    obtain ⟨_, na, vs, kv, o, es, n, at_, ex, dt, _⟩ := I.hok a _ e
    exact eq_dict_str at_ ex.1 dt (by omega) ⟨.bl _, H, I, rfl, q⟩
end Jg

/-! x + v, v + x by the own methods of x, v of a built-in type; they may raise -/
namespace Jg
open PySem PySem.Spec PyProof.Rows L2 PySem.W
/-- what the operator nm finds at a built-in type -/
structure NumT (T nm : String) (fl : Bool) : Prop where
  fills : fillsNumberSlot (.type T) nm = pure fl
  rad : ∃ r, typeLookup (.type T) (dunderR nm) = pure r
section
variable {prog : Program} {w : World} {A : Around} {E : Value → Shared → Prop} {s : Shared} {K : Frag} {x C f : Addr} {ox : Obj} {od : Option Obj} {b : Value} {T : String} {op : Operator}
/-- the class's own reflected method: none, or a def -/
def RadOk (K : Frag) (C : Addr) (nm : String) : Prop := findIn K (.ref C) (dunderR nm) = some none ∨ ∃ g, findIn K (.ref C) (dunderR nm) = some (some (.ref g))
theorem py_slot {M : Model} {h : Heap} {nm : String} (X : K.In h) (hs : findIn K (.ref C) (PySem.dunder nm) = some (some (.ref f))) (hr : RadOk K C nm) : Looks M h (numberSlotInPython (.ref C) nm) true := by
  intro A Q E s k q
  unfold numberSlotInPython
  dsimp only
  refine wpAny_bind (looks_findIn X hs A _ E s k ?_)
  refine wpAny_bind (wpAny_pure ?_)
  rcases hr with e | ⟨g, e⟩
  · refine wpAny_bind (looks_findIn X e A _ E s k ?_)
    refine wpAny_bind (wpAny_pure ?_)
    rw [Bool.true_or, if_pos rfl]
    exact wpAny_pure q
  · refine wpAny_bind (looks_findIn X e A _ E s k ?_)
    refine wpAny_bind (wpAny_pure ?_)
    rw [Bool.true_or, if_pos rfl]
    exact wpAny_pure q
theorem first_of (hc : selfFirst K C = true) : ∃ cd rest, clsIn K C = some cd ∧ cd.mro = .ref C :: rest := by
  obtain ⟨cd, hcd, hm⟩ := any_some hc
  cases q : cd.mro with
  | nil => rw [q] at hm; cases hm
  | cons a r =>
    rw [q] at hm
    have e := beq_iff_eq.mp hm
    rw [List.head?_cons] at e
    cases e
    exact ⟨cd, r, hcd, q⟩
theorem left_K {fl : Bool} {Q : Value → Shared → Prop} (X : K.In s.heap) (I : InstAt s.heap x ox C od) (hb : Looks (model prog w) s.heap (typeOf b) (.type T)) (hc : selfFirst K C = true) (hs : findIn K (.ref C) (PySem.dunder op.info.2) = some (some (.ref f))) (hr : RadOk K C op.info.2)
    (hf : isFn K (.ref f) = true) (N : NumT T op.info.2 fl) (sub : subIn K (.type T) (.ref C) = some false) (h : wpAny (model prog w) A (call (.ref f) [.ref x, b]) (PySem.W.CmpBack Q) E s) : wpAny (model prog w) A (binaryOp op (.ref x) b) Q E s := by
  obtain ⟨cd, rest, hcd, hm⟩ := first_of hc
  have own : ∀ R : Option Value → Shared → Prop, (∀ v s', PySem.W.CmpBack Q v s' → v ≠ .notImplemented → R (some v) s') → wpAny (model prog w) A (tryMethod (.ref x) (PySem.dunder op.info.2) b) R E s := by
    intro R hR
    unfold tryMethod
    refine wpAny_bind (special_fn X I hs (beq_iff_eq.mp hf) (wpAny_mono h (fun v s' hv => ?_) fun _ _ e => e))
    have z := hR v s' hv
    cases v <;> first | exact hv.elim | exact wpAny_pure (z nofun)
  have back : ∀ v s', PySem.W.CmpBack Q v s' → v ≠ .notImplemented → Q v s' := fun v s' hv n => by
    cases v <;> first | exact hv.elim | exact hv
  obtain ⟨r, er⟩ := N.rad
  unfold binaryOp
  refine wpAny_holding (wpAny_bind ?_)
  unfold binaryOp1
  refine wpAny_bind (I.type.here (wpAny_bind (hb.here (wpAny_bind ((fills_K X hcd hm hs).here ?_)))))
  rw [if_neg (show ¬ ((Value.ref C == Value.type T) = true) from by rw [show (Value.ref C == Value.type T) = false from rfl]; decide)]
  refine wpAny_bind (wpAny_of_eq N.fills ?_)
  cases fl with
  | false =>
    simp only [Bool.and_false, Bool.false_eq_true, if_false, Bool.false_and]
    refine wpAny_bind (wpAny_pure ?_)
    simp only [Bool.false_eq_true, if_false]
    refine wpAny_bind (m := tryMethod (.ref x) _ b) (own _ fun v s' hv n => ?_)
    exact wpAny_pure (wpAny_pure (back v s' hv n))
  | true =>
    simp only [Bool.and_self, if_true]
    refine wpAny_bind (m := isSubtype _ _) ((looks_subIn X sub).here ?_)
    simp only [Bool.false_eq_true, if_false]
    refine wpAny_bind (m := numberSlotInPython _ _) ((py_slot X hs hr).here ?_)
    simp only [if_true]
    refine wpAny_bind (m := numberSlotInPython _ _) (wpAny_pure ?_)
    simp only [Bool.not_false, if_true]
    refine wpAny_bind (m := typeLookup _ _) (wpAny_of_eq er ?_)
    refine wpAny_bind (m := tryMethod (.ref x) _ b) (own _ fun v s' hv n => ?_)
    exact wpAny_pure (wpAny_pure (back v s' hv n))
/-- int.__add__ declines an instance -/
theorem int_no {i : Int} {t : Tok} {dx : Addr} (Q : Value → Shared → Prop) (at_ : s.heap.get? x = some (instObj C dx)) (q : Q .notImplemented s) : wpAny (model prog w) A (call (.builtin "int.__add__") [.int i t, .ref x]) Q E s := by
  refine wpAny_call (codeAny_call_builtin F.slot_int_add.plain F.entry_int_add (F.slot_int_add.check _ _ _ _ _ _ _ _ (typeIs_int s i t) (F.args_int_add_2 _ _) ?_))
  unfold instObj at at_
  obtain ⟨h0, g0, d0, t0, os0⟩ := s
  wp_walk using wpAny_loadPart' at_, wpAny_load at_
  first
    | exact q
    | exact ⟨_, rfl, q⟩
theorem bool_no {c : Bool} {dx : Addr} (Q : Value → Shared → Prop) (at_ : s.heap.get? x = some (instObj C dx)) (q : Q .notImplemented s) : wpAny (model prog w) A (call (.builtin "int.__add__") [.bool c, .ref x]) Q E s := by
  refine wpAny_call (codeAny_call_builtin F.slot_bool_add.plain F.entry_int_add (F.slot_bool_add.check _ _ _ _ _ _ _ _ rfl (F.args_int_add_2 _ _) ?_))
  unfold instObj at at_
  obtain ⟨h0, g0, d0, t0, os0⟩ := s
  wp_walk using wpAny_loadPart' at_, wpAny_load at_
  first
    | exact q
    | exact ⟨_, rfl, q⟩
/-- what stands left of the operator: it leaves it to the other side -/
def Leaves (prog : Program) (w : World) (T nm : String) (fl : Bool) (a : Value) (x : Addr) : Prop :=
  fl = true → ∀ (A : Around) (E : Value → Shared → Prop) (s : Shared) (C dx : Addr) (R : Option Value → Shared → Prop), s.heap.get? x = some (instObj C dx) → R none s → wpAny (model prog w) A (tryMethod a (PySem.dunder nm) (.ref x)) R E s
theorem leaves_no {T nm : String} {a : Value} : Leaves prog w T nm false a x := fun z => nomatch z
theorem leaves_int {i : Int} {t : Tok} : Leaves prog w "int" "add" true (.int i t) x := fun _ A E s C dx R at_ r => by
  unfold tryMethod callSpecial? specialOf
  refine wpAny_bind (wpAny_bind (wpAny_bind (wpAny_typeOf (typeIs_int s i t) (wpAny_of_eq F.slot_int_add.lookup ?_))))
  refine wpAny_holding (wpAny_bind (wpAny_of_eq (F.slot_int_add.bind _) (wpAny_bind (int_no _ at_ ?_))))
  exact wpAny_pure (wpAny_pure r)
theorem leaves_bool {c : Bool} : Leaves prog w "bool" "add" true (.bool c) x := fun _ A E s C dx R at_ r => by
  unfold tryMethod callSpecial? specialOf
  refine wpAny_bind (wpAny_bind (wpAny_bind (wpAny_typeOf (T := "bool") rfl (wpAny_of_eq F.slot_bool_add.lookup ?_))))
  refine wpAny_holding (wpAny_bind (wpAny_of_eq (F.slot_bool_add.bind _) (wpAny_bind (bool_no _ at_ ?_))))
  exact wpAny_pure (wpAny_pure r)
theorem right_K {fl : Bool} {a : Value} {g dx : Addr} {Q : Value → Shared → Prop} (X : K.In s.heap) (I : InstAt s.heap x ox C od) (at_ : s.heap.get? x = some (instObj C dx)) (ha : Looks (model prog w) s.heap (typeOf a) (.type T)) (hc : selfFirst K C = true) (hs : findIn K (.ref C) (PySem.dunder op.info.2) = some (some (.ref f)))
    (hr : findIn K (.ref C) (dunderR op.info.2) = some (some (.ref g))) (hg : isFn K (.ref g) = true) (N : fillsNumberSlot (.type T) op.info.2 = pure fl) (lv : Leaves prog w T op.info.2 fl a x) (sub : subIn K (.ref C) (.type T) = some false)
    (h : wpAny (model prog w) A (call (.ref g) [.ref x, a]) (PySem.W.CmpBack Q) E s) : wpAny (model prog w) A (binaryOp op a (.ref x)) Q E s := by
  obtain ⟨cd, rest, hcd, hm⟩ := first_of hc
  have own : ∀ R : Option Value → Shared → Prop, (∀ v s', PySem.W.CmpBack Q v s' → v ≠ .notImplemented → R (some v) s') → wpAny (model prog w) A (tryMethod (.ref x) (dunderR op.info.2) a) R E s := by
    intro R hR
    unfold tryMethod
    refine wpAny_bind (special_fn X I hr (beq_iff_eq.mp hg) (wpAny_mono h (fun v s' hv => ?_) fun _ _ e => e))
    have z := hR v s' hv
    cases v <;> first | exact hv.elim | exact wpAny_pure (z nofun)
  have back : ∀ v s', PySem.W.CmpBack Q v s' → v ≠ .notImplemented → Q v s' := fun v s' hv n => by
    cases v <;> first | exact hv.elim | exact hv
  unfold binaryOp
  refine wpAny_holding (wpAny_bind ?_)
  unfold binaryOp1
  refine wpAny_bind (ha.here (wpAny_bind (I.type.here (wpAny_bind (wpAny_of_eq N ?_)))))
  rw [if_neg (show ¬ ((Value.type T == Value.ref C) = true) from by rw [show (Value.type T == Value.ref C) = false from rfl]; decide)]
  refine wpAny_bind ((fills_K X hcd hm hs).here ?_)
  cases fl with
  | false =>
    simp only [Bool.and_true, Bool.false_eq_true, if_false, Bool.false_and]
    refine wpAny_bind (wpAny_pure ?_)
    simp only [Bool.false_eq_true, if_false, Bool.not_false, Bool.and_true, if_true]
    refine wpAny_bind (m := tryMethod (.ref x) _ a) (own _ fun v s' hv n => ?_)
    exact wpAny_bind (wpAny_rule (wpAny_pure (wpAny_pure (back v s' hv n))))
  | true =>
    simp only [Bool.and_self, if_true]
    refine wpAny_bind (m := isSubtype _ _) ((looks_subIn X sub).here ?_)
    simp only [Bool.false_eq_true, if_false]
    refine wpAny_bind (m := numberSlotInPython _ _) (wpAny_pure ?_)
    simp only [Bool.false_eq_true, if_false]
    refine wpAny_bind (m := tryMethod a _ (.ref x)) (lv rfl _ _ _ _ _ _ at_ ?_)
    simp only [Bool.not_false, if_true]
    refine wpAny_bind (m := tryMethod (.ref x) _ a) (own _ fun v s' hv n => ?_)
    exact wpAny_bind (wpAny_rule (wpAny_pure (wpAny_pure (back v s' hv n))))
end
theorem fills_no {T nm : String} {f r : Option Value} (h1 : typeLookup (.type T) (PySem.dunder nm) = pure f) (h2 : typeLookup (.type T) (dunderR nm) = pure r) (e : ((f.isSome && !isSeqSlot f) || (r.isSome && !isSeqSlot r)) = false) : fillsNumberSlot (.type T) nm = pure false := by
  unfold fillsNumberSlot
  dsimp only
  rw [h1, pure_bind, h2, pure_bind, e]
theorem num_str_add : NumT "str" "add" false := ⟨fills_no (f := some (.builtin "str.__add__")) (r := none) (by rw [typeLookup_type, builtinLookup_eq_fast]; kernel_rfl) (by rw [typeLookup_type, builtinLookup_eq_fast]; kernel_rfl) (by decide +kernel), ⟨none, by rw [typeLookup_type, builtinLookup_eq_fast]; kernel_rfl⟩⟩
theorem num_str_sub : NumT "str" "sub" false := ⟨fills_no (f := none) (r := none) (by rw [typeLookup_type, builtinLookup_eq_fast]; kernel_rfl) (by rw [typeLookup_type, builtinLookup_eq_fast]; kernel_rfl) (by decide +kernel), ⟨none, by rw [typeLookup_type, builtinLookup_eq_fast]; kernel_rfl⟩⟩
theorem num_tuple_add : NumT "tuple" "add" false := ⟨fills_no (f := some (.builtin "tuple.__add__")) (r := none) (by rw [typeLookup_type, builtinLookup_eq_fast]; kernel_rfl) (by rw [typeLookup_type, builtinLookup_eq_fast]; kernel_rfl) (by decide +kernel), ⟨none, by rw [typeLookup_type, builtinLookup_eq_fast]; kernel_rfl⟩⟩
theorem num_tuple_sub : NumT "tuple" "sub" false := ⟨fills_no (f := none) (r := none) (by rw [typeLookup_type, builtinLookup_eq_fast]; kernel_rfl) (by rw [typeLookup_type, builtinLookup_eq_fast]; kernel_rfl) (by decide +kernel), ⟨none, by rw [typeLookup_type, builtinLookup_eq_fast]; kernel_rfl⟩⟩
theorem num_list_add : NumT "list" "add" false := ⟨fills_no (f := some (.builtin "list.__add__")) (r := none) (by rw [typeLookup_type, builtinLookup_eq_fast]; kernel_rfl) (by rw [typeLookup_type, builtinLookup_eq_fast]; kernel_rfl) (by decide +kernel), ⟨none, by rw [typeLookup_type, builtinLookup_eq_fast]; kernel_rfl⟩⟩
theorem num_list_sub : NumT "list" "sub" false := ⟨fills_no (f := none) (r := none) (by rw [typeLookup_type, builtinLookup_eq_fast]; kernel_rfl) (by rw [typeLookup_type, builtinLookup_eq_fast]; kernel_rfl) (by decide +kernel), ⟨none, by rw [typeLookup_type, builtinLookup_eq_fast]; kernel_rfl⟩⟩
theorem num_int_add : NumT "int" "add" true := ⟨F.fills_int_add, ⟨some (.builtin "int.__radd__"), by rw [typeLookup_type, builtinLookup_eq_fast]; kernel_rfl⟩⟩
theorem num_int_sub : NumT "int" "sub" true := ⟨F.fills_int_sub, ⟨some (.builtin "int.__rsub__"), by rw [typeLookup_type, builtinLookup_eq_fast]; kernel_rfl⟩⟩
theorem num_bool_add : NumT "bool" "add" true := ⟨F.fills_bool_add, ⟨some (.builtin "int.__radd__"), by rw [typeLookup_type, builtinLookup_eq_fast]; kernel_rfl⟩⟩
theorem num_bool_sub : NumT "bool" "sub" true := ⟨F.fills_bool_sub, ⟨some (.builtin "int.__rsub__"), by rw [typeLookup_type, builtinLookup_eq_fast]; kernel_rfl⟩⟩
/-! ### the operators at the slots as they stand -/
/-- x op y, x an instance, y of a built-in type -/
def rLeft (K : PySem.W.Frag) (C : Addr) (nm : String) (sp : Sp) (E : XK) : R2 := fun x y H Q => ∃ a dx fs T fl, x = .ref a ∧ H a = some (.ins C dx fs) ∧ TyX K H y (.type T) ∧ NumT T nm fl ∧ PySem.W.subIn K (.type T) (.ref C) = some false ∧ sp [.ref a, y] H Q E
def LvV (x : V) (T nm : String) (fl : Bool) : Prop := fl = false ∨ nm = "add" ∧ ((∃ i, x = .int i ∧ T = "int") ∨ ∃ b, x = .bl b ∧ T = "bool")
/-- y op x, y of a built-in type, x an instance -/
def rRight (K : PySem.W.Frag) (C : Addr) (nm : String) (sp : Sp) (E : XK) : R2 := fun x y H Q => ∃ a dx fs T fl, y = .ref a ∧ H a = some (.ins C dx fs) ∧ TyX K H x (.type T) ∧ NumT T nm fl ∧ LvV x T nm fl ∧ PySem.W.subIn K (.ref C) (.type T) = some false ∧ sp [.ref a, x] H Q E
def tOpS (r : L2.St → R2) (ta tb : TE) : TE := fun σ H Q => ta σ H fun x H1 => tb σ H1 fun y H2 => r σ x y H2 Q
section
variable {X : Cx} {W : WX} {k j : Nat} {C : Addr} {sp : Sp} {op : Operator} {e o : Expr} {ta tb : TE} {pos : Pos}
/-- what an operator of the class must be -/
structure Bin (K : PySem.W.Frag) (C : Addr) (nm : String) : Prop where
  sf : PySem.W.selfFirst K C = true
  rad : RadOk K C nm
theorem pe_left (c : Met X.prog X.w X.K X.mg X.base (L2.CX X.prog X.w) k C (PySem.dunder op.info.2) sp) (B : Bin X.K C op.info.2) (tk : Takes X W) (hr : Room j X.A) (hk : k ≤ j) (ha : PE X o ta) (hb : PE X e tb) : PE X (.BinOp o op e pos) (tOpS (fun σ => rLeft X.K C op.info.2 sp (WE W σ)) ta tb) := by
  obtain ⟨f, fd, ps, F, a0, i0, kp, b⟩ := c.ex
  refine ⟨fun pins s σ H Q I h => wpAny_BinOp (binT (R := fun x y H2 => rLeft X.K C op.info.2 sp (WE W σ) x y H2 Q) ha hb I h fun v u s2 x y H2 I2 rx ry q => ?_)⟩
  obtain ⟨a, dx, fs, T, fl, rfl, ea, ty, N, sub, q⟩ := q
  cases rx
  obtain ⟨mA, J0, _⟩ := ins_get I2.hok ea
  obtain ⟨od, J, _⟩ := J0.look
  obtain ⟨P, Z, p, _⟩ := kit_of I2 ry ty
  refine left_K I2.kIn J (Z.ty _ _ I2.kIn p) B.sf a0 B.rad i0 N sub ?_
  exact wpAny_mono (run_fnS (E := WE W) (us := [.ref a, u]) (vs := [.ref a, y]) F (hr.mono hk) b (passAt tk σ) I2 (.cons rfl (.cons ry .nil)) q) (fun _ _ z => back_of z) fun _ _ z => z
theorem pe_right (c : Met X.prog X.w X.K X.mg X.base (L2.CX X.prog X.w) k C (dunderR op.info.2) sp) (B : Bin X.K C op.info.2) {f : Addr} (own : PySem.W.findIn X.K (.ref C) (PySem.dunder op.info.2) = some (some (.ref f))) (tk : Takes X W) (hr : Room j X.A) (hk : k ≤ j) (ha : PE X e ta) (hb : PE X o tb) : PE X (.BinOp e op o pos) (tOpS (fun σ => rRight X.K C op.info.2 sp (WE W σ)) ta tb) := by
  obtain ⟨g, fd, ps, F, a0, i0, kp, b⟩ := c.ex
  refine ⟨fun pins s σ H Q I h => wpAny_BinOp (binT (R := fun x y H2 => rRight X.K C op.info.2 sp (WE W σ) x y H2 Q) ha hb I h fun v u s2 x y H2 I2 rx ry q => ?_)⟩
  obtain ⟨a, dx, fs, T, fl, rfl, ea, ty, N, lv, sub, q⟩ := q
  cases ry
  obtain ⟨mA, J0, _⟩ := ins_get I2.hok ea
  obtain ⟨od, J, _⟩ := J0.look
  obtain ⟨P, Z, p, _⟩ := kit_of I2 rx ty
  have lv' : Leaves X.prog X.w T op.info.2 fl v a := by
    rcases lv with e | ⟨e, ⟨i, e1, e2⟩ | ⟨c, e1, e2⟩⟩
    · subst e; exact leaves_no
    · rw [e]
      subst e1 e2
      obtain ⟨t, rfl⟩ := rx
      exact fun _ => leaves_int rfl
    · rw [e]
      subst e1 e2
      cases rx
      exact fun _ => leaves_bool rfl
  refine right_K I2.kIn J J0.obj (Z.ty _ _ I2.kIn p) B.sf own a0 i0 N.fills lv' sub ?_
  exact wpAny_mono (run_fnS (E := WE W) (us := [.ref a, v]) (vs := [.ref a, x]) F (hr.mono hk) b (passAt tk σ) I2 (.cons rfl (.cons rx .nil)) q) (fun _ _ z => back_of z) fun _ _ z => z
end
/-! ### the truth of an instance -/
theorem pt_own {X : Cx} {k j : Nat} {C : Addr} {sp : Sp} {a : Expr} {ta : TE} (c : Met X.prog X.w X.K X.mg X.base CX0 k C "__bool__" sp) (hr : Room j X.A) (hk : k ≤ j) (ha : PE X a ta) (he : ∀ whole, isTrue a X.env whole = (do let v ← whole; standAt a.pos; holding [v] (truthy v)) := by intro _; rfl) :
    PT X a (fun σ H Q => ta σ H fun x H' => ∃ p dx fs, x = .ref p ∧ H' p = some (.ins C dx fs) ∧ sp [.ref p] H' (fun v H2 => ∃ b, v = .bl b ∧ Q b H2) E0) := by
  refine ⟨fun pins s σ H Q I h => isTrue_plain (thn (ha.run pins s σ H _ I h) fun v s1 ⟨x, H1, I1, r1, q1⟩ => ?_) (he _)⟩
  obtain ⟨p, dx, fs, rfl, ea, q⟩ := q1
  cases r1
  obtain ⟨f, fd, ps, F, ini, fn, kp, b⟩ := c.ex
  obtain ⟨mA, J, _⟩ := ins_get I1.hok ea
  obtain ⟨od, J, _⟩ := J.look
  obtain ⟨m, hF⟩ := I1.fr
  refine PySem.W.truthy_K hF I1.ok.mod.kin J ini fn ?_
  refine wpAny_mono (run_fn (us := [.ref p]) (vs := [.ref p]) F (hr.mono hk) b .nil pass0 I1 (.cons rfl .nil) q) (fun u s2 z => ?_) fun _ _ z => z
  obtain ⟨w', H2, I2, rw', bb, rfl, q3⟩ := z
  cases rw'
  exact ⟨H2, I2, q3⟩
/-! ### C.m(e), m a classmethod that may raise -/
open ClX in
theorem pe_cmS {X : Cx} {W : WX} {k j : Nat} {C : Addr} {mc : Value} {m : Str} {sp : Sp} {o e : Expr} {es : List Expr} {ta : TE} {t : TA} {pos apos : Pos} {pl : Sem Bool} (c : Cmt X.prog X.w X.K X.mg X.base (L2.CX X.prog X.w) k C mc m sp) (tk : Takes X W) (hr : Room j X.A) (hk : k ≤ j) (he : PE X o ta) (ha : PA X (e :: es) t)
    (hst : starEach (e :: es) X.env = (false, eval e X.env) :: starEach es X.env := by rfl) (hpl : (backTo pos (starEach es X.env)).any (·.1) = false := by rfl)
    (ht : eval (.Call (.Attribute o m apos) (e :: es) [] pos) X.env = (do
      let ov ← eval o X.env
      standAt apos.atName
      let (f, first) ← holding [ov] (getMethod ov m pl)
      callWith pos f first (backTo pos (starEach (e :: es) X.env)) (backToKw pos (keywordEach [] X.env))) := by rfl) :
    PE X (.Call (.Attribute o m apos) (e :: es) [] pos) (fun σ H Q => ta σ H fun x H1 => x = .ref C ∧ t σ H1 fun vs H2 => sp (.ref C :: vs) H2 Q (WE W σ)) := by
  obtain ⟨q0, f, fd, ps, F, r, a, b⟩ := c.ex
  refine ⟨fun pins s σ H Q I h => PySem.W.methodCall_KW (pl := pl) (thn (he.run pins s σ H _ I h) fun u s1 ⟨x, H1, I1, rx, ex, q⟩ => ?_) ht⟩
  subst ex
  obtain rfl : u = Value.ref C := rx
  refine getmethcm_ok I1 r a fun s2 I2 => ?_
  refine callwith_cm I2 (base_none I1 (Nat.le_refl _)) a.fi (thn (ha.run pos _ s2 σ H1 _ I2 q) fun us s3 ⟨vs, H2, I3, rv, q2⟩ => ⟨⟨pin_at I3, I3.kIn⟩, ?_⟩) hst hpl
  have rr : Vals (V.ref C :: vs) (Value.ref C :: us) := .cons rfl rv
  have ln : (Value.ref C :: us).length = ps.length := rr.length.symm.trans (F.len _ _ _ _ q2)
  have bd := b s3 (Value.ref C :: us) I3.kIn (by rw [List.append_nil]; exact ln)
  rw [List.append_nil] at bd
  have run := F.run X.A X.stack s3 H2 ⟨Value.ref C :: us, []⟩ _ _ _ (WE W σ) (hr.mono hk) I3.env0 bd rr q2
  have z : wpAny (model X.prog X.w) X.A (call (.ref s1.heap.objs.size) us) (EP X ((s1.heap.objs.size, PySem.W.methodObj (.ref f) (.ref C)) :: pins) σ Q) X.xe s3 :=
    wpAny_call (PySem.W.method_call (pin_at I3) (codeAny_mono run fun o s4 z => match o, z with
      | .error err, z => passAt tk σ _ _ _ err s4 I3 z
      | .ok (.ret u), z => I3.after z))
  exact thn z fun _ _ y => unpinE y
section
variable {P : Program} {w : World} {K : PySem.W.Frag} {mg : Str → Option Value} {base : Heap} {k : Nat} {C : Addr} {mc : Value} {m qual : Str} {st : Stmt} {N ps : List Str} {sp : Sp}
theorem CmtK.cmtX (D : CmtK K C mc m qual st) (S : FnScope N ps (defScope st)) (b : BindOk m qual st ps) (len : ∀ vs H Q E, sp vs H Q E → vs.length = ps.length) (hb : ∀ f, BodyX P w K mg base N qual st f k sp) : Cmt P w K mg base (L2.CX P w) (k + 1) C mc m sp :=
  let ⟨p, f, fd, F, r, a⟩ := D.ex
  ⟨p, f, fd, ps, F.okX S len (hb f), r, a, F.binds b⟩
end
/-! ### str(x) by an own __str__ -/
theorem str_in {prog : Program} {w : World} (x : Value) : MeetsIn prog w (Builtin.«str.__new__» ⟨[.type "str", x], []⟩) fun A R s => wpAny (model prog w) A.in1 (Builtin.Str.strOf x) (fun v s' => R (.ok (.ret v)) s') (fun e s' => R (.error e) s') s := by
  intro A R s h
  rw [str_new_tree x]
  refine wpAny_bind (wpAny_pure (wpAny_bind (wpAny_of_eq isSubtype_str_str ?_)))
  exact wpAny_bind (wpAny_mono h (fun v s' z => wpAny_pure z) fun _ _ z => z)
def rStrO (C : Addr) (sp : Sp) (E : XK) : List V → Hp → VK → Prop := fun xs H Q => ∃ a dx fs, xs = [.ref a] ∧ H a = some (.ins C dx fs) ∧ sp [.ref a] H (fun v H' => ∃ z, v = .str z ∧ Q (.str z) H') E
theorem call_strO {X : Cx} {k j : Nat} {C : Addr} {sp : Sp} (c : Met X.prog X.w X.K X.mg X.base CX0 k C "__str__" sp) (hr : Room j X.A) (hk : k + 2 ≤ j) : CallR X (.type "str") (rStrO C sp E0) := by
  intro pins s σ H xs us Q I r h
  obtain ⟨a, dx, fs, rfl, ea, q⟩ := h
  obtain rfl := Vals.ref1 r
  obtain ⟨f, fd, ps, F, ini, fn, kp, b⟩ := c.ex
  obtain ⟨mA, J, _⟩ := ins_get I.hok ea
  obtain ⟨od, J, _⟩ := J.look
  have rv : Vals [V.ref a] [Value.ref a] := .cons rfl .nil
  have ln : [Value.ref a].length = ps.length := rv.length.symm.trans (F.len _ _ _ _ q)
  have bd := b s [Value.ref a] I.kIn (by rw [List.append_nil]; exact ln)
  rw [List.append_nil] at bd
  have rm : Room (k + 2) X.A := hr.mono hk
  have run := F.run X.A.in1.in1 X.stack s H ⟨[Value.ref a], []⟩ _ _ _ E0 rm.in1.in1 I.env0.in1.in1 bd rv q
  refine callType_newIn PySem.F.called_str (by decide) (PySem.F.typeCall_str_1 _) (PySem.F.newCall_str_1 _) (fun obj => PySem.F.args_object_init_2 obj _) PySem.F.entry_str_new (str_in _) ?_
  unfold Builtin.Str.strOf
  refine wpAny_bind (wpAny_cRoomFor (Nat.lt_of_le_of_lt (by show X.A.units + 2 ≤ X.A.units + 64; omega) hr.units) ?_)
  refine wpAny_bind (special_fn I.kIn J ini (beq_iff_eq.mp fn) (wpAny_call (codeAny_mono run fun o s2 z => ?_)))
  match o, z with
  | .error err, z => exact z.elim
  | .ok (.ret u), z =>
    obtain ⟨v, H2, J3, rv3, zz, rfl, q3⟩ := I.after z
    obtain ⟨t, rfl⟩ := rv3
    refine wpAny_bind (wpAny_pure ?_)
    exact wpAny_pure ⟨typeIs_str _ _ _, .str zz, H2, J3, ⟨_, rfl⟩, q3⟩
end Jg

/-! texts: list(text), text * number, text.replace of written texts behind another written text -/
namespace Jg
open PySem PySem.Spec PyProof.Rows L2
section
variable {X : Cx}
/-- list(text): its signs -/
theorem call_listS (hc : X.calm = true) : CallR X (.type "list") (fun xs H Q => ∃ z : Str, xs = [.str z] ∧ z.length ≤ sizeLine ∧ ∀ p, H p = none → Q (.ref p) (upd H p (.lst (z.cps.toList.map fun c => V.str ⟨#[c]⟩)))) := by
  intro pins s σ H xs us Q I r h
  obtain ⟨z, rfl, hz, q⟩ := h
  obtain ⟨u, rfl, rx⟩ := vals1 r
  obtain ⟨t, rfl⟩ := rx
  refine PySem.call_list_str (hn := hz) (I.ok.hd hc) z t fun h' tk acc c' hk e hi => ?_
  refine ⟨.ref s.heap.objs.size, upd H s.heap.objs.size (.lst (z.cps.toList.map fun c => V.str ⟨#[c]⟩)), I.laid hk (Nat.le_refl _) ⟨by rw [List.length_map, Array.length_toList]; exact hz, acc.toList, c', ?_, by rw [Array.toArray_toList]; exact e⟩, rfl, q _ (I.hok.fresh (Nat.le_refl _))⟩
  refine vals_of_idx _ _ (by rw [List.length_map, Array.length_toList, Array.length_toList]; exact hi.1) fun j u hj => ?_
  obtain ⟨c, t', hc, rfl⟩ := hi.2 j u (by rw [← Array.getElem?_toList]; exact hj)
  exact ⟨.str ⟨#[c]⟩, by rw [List.getElem?_map, Array.getElem?_toList, hc]; rfl, ⟨_, rfl⟩⟩
/-- text * number -/
def timesT (z : Str) (n : Int) : Str := ⟨(List.replicate n.toNat z.cps).foldl (· ++ ·) #[]⟩
theorem op_mul_str : OpR X (binaryOp .Mult) (fun x y H Q => ∃ (z : Str) (n : Int), x = .str z ∧ y = .int n ∧ 2 ≤ n ∧ n ≤ 100000 ∧ z.length = 1 ∧ Q (.str (timesT z n)) H) := by
  intro pins s σ H x y v u Q I rx ry h
  obtain ⟨z, n, rfl, rfl, h1, h2, hz, q⟩ := h
  obtain ⟨t, rfl⟩ := rx
  obtain ⟨t', rfl⟩ := ry
  have e1 : decide (n < -(2 ^ 63 : Int)) = false := decide_eq_false (by omega)
  have e2 : decide (n ≥ 2 ^ 63) = false := decide_eq_false (by omega)
  have e3 : (n == 1 || z.length == 0) = false := by
    rw [hz, Bool.or_eq_false_iff]
    exact ⟨beq_eq_false_iff_ne.mpr (by omega), rfl⟩
  have fl : ∀ (k : Nat) (a : Array Nat), ((List.replicate k z.cps).foldl (· ++ ·) a).size = a.size + k := by
    intro k
    induction k with
    | zero => intro a; rfl
    | succ k ih =>
      intro a
      rw [List.replicate_succ, List.foldl_cons, ih, Array.size_append]
      have : z.cps.size = 1 := hz
      omega
  have sz : (timesT z n).length ≤ sizeLine := by
    show ((List.replicate n.toNat z.cps).foldl (· ++ ·) #[]).size ≤ sizeLine
    rw [fl, sizeLine_eq]
    show 0 + n.toNat ≤ _
    omega
  refine PySem.P.mul_str (by rw [e1, e2]; rfl) (fun _ _ => ?_) (fun _ _ => ?_) ?_
  · rw [hz]
    have : (2 ^ 63 - 1) / n ≥ 1 := by
      have : (1 : Int) * n ≤ 2 ^ 63 - 1 := by omega
      exact (Int.le_ediv_iff_mul_le (by omega)).mpr this
    omega
  · unfold PySem.Builtin.Str.tooLong
    rw [hz, sizeLine_eq]
    exact decide_eq_false (by omega)
  · rw [if_neg (by omega), if_neg (by rw [e3]; decide)]
    exact ⟨sz, ⟨.str (timesT z n), H, I.tok _, ⟨_, rfl⟩, q⟩⟩
/-! ### a written text was read: a token is out -/
def PE1 (X : Cx) (e : Expr) (t : TE) : Prop :=
  ∀ (pins : List (Addr × Obj)) (s : Shared) (σ : L2.St) (H : Hp) (Q : VK), Inv X pins σ H s → t σ H Q → wpAny (model X.prog X.w) X.A (eval e X.env) (fun u s' => 1 ≤ s'.toks ∧ EP X pins σ Q u s') X.xe s
theorem pe1_op {op : Operator} {r : R2} {a : Expr} {c : Str} {j : Nat} {cp pos : Pos} {ta : TE} (ho : OpR X (binaryOp op) r) (ha : PE X a ta) : PE1 X (.BinOp a op (.Constant (.str c) j cp) pos) (tOp r ta (tC (.str c))) := by
  intro pins s σ H Q I h
  refine wpAny_BinOp (thn (ha.run pins s σ H _ I h) fun v s1 ⟨x, H1, I1, r1, q1⟩ => Calls.Constant_str ?_)
  refine wpAny_mono (PySem.wpAny_toks_of (n := 1) (by show 1 ≤ s1.toks + 1; omega) (ho pins { s1 with toks := s1.toks + 1 } σ H1 x (.str c) v (.str c s1.toks) Q (I1.tok _) r1 ⟨_, rfl⟩ q1)) (fun _ _ z => z) fun _ _ z => z.2
theorem pet_of {e : Expr} {t : TE} (h : PE X e t) : PET X e t := fun pins s σ H Q _ I q => h.run pins s σ H Q I q
theorem pa_tok {e : Expr} {es : List Expr} {te : TE} {ta : TA} (ha : PE1 X e te) (hr : PAT X es ta) (hs : starEach (e :: es) X.env = (false, eval e X.env) :: starEach es X.env := by rfl) : PA X (e :: es) (tCons te ta) := by
  refine ⟨fun pos pins s σ H Q I h => ?_⟩
  rw [hs]
  show wpAny _ _ (spliced ((false, eval e X.env) :: backTo pos (starEach es X.env))) _ _ s
  refine Calls.spliced_cons (thn (ha pins s σ H _ I h) fun u s1 ⟨hk, x, H1, I1, r1, q1⟩ => ?_)
  exact thn (hr pos pins s1 σ H1 _ hk I1 q1) fun us s2 ⟨xs, H2, I2, r2, q2⟩ => ⟨x :: xs, H2, I2, .cons r1 r2, q2⟩
def tRepl (y z : Str) (to : TE) : TE := fun σ H Q => to σ H fun x H1 => ∃ a : Str, x = .str a ∧ a.length + (a.length + 1) * z.length ≤ 16777216 ∧ Q (.str (Txt.replace a y z)) H1
theorem pet_repl {o : Expr} {y z : Str} {j0 j1 : Nat} {c0 c1 apos pos : Pos} {to : TE} (ho : PE X o to) (hyz : (y == z) = false)
    (hst : starEach [.Constant (.str y) j0 c0, .Constant (.str z) j1 c1] X.env = [(false, eval (.Constant (.str y) j0 c0) X.env), (false, eval (.Constant (.str z) j1 c1) X.env)] := by rfl)
    (hbase : attributeBase o "replace" X.env (eval o X.env) = eval o X.env := by rfl) (hline : (apos.endLine == pos.line) = true := by rfl) :
    PET X (.Call (.Attribute o "replace" apos) [.Constant (.str y) j0 c0, .Constant (.str z) j1 c1] [] pos) (tRepl y z to) := by
  intro pins s σ H Q h0 I h
  refine PySem.Call_method2 hbase hst hline (wpAny_mono (PySem.wpAny_toks_of (n := 1) h0 (ho.run pins s σ H _ I h)) (fun v s1 q => ?_) fun _ _ x => x.2)
  obtain ⟨hk, x, H1, I1, r1, a, rfl, hb, q⟩ := q
  obtain ⟨tx, rfl⟩ := r1
  refine ⟨"str", _, F.plainAttrs_str, F.slot_str_replace, F.type_str_replace, typeIs_str _ _ _, (fun _ e => nomatch e), Calls.callWith_builtin rfl (Calls.evalArgs_plain (Calls.spliced_cons ?_))⟩
  refine Calls.Constant_str (Calls.spliced_cons (Calls.Constant_str (Calls.spliced_nil ?_)))
  exact PySem.SC.replace (t := tx) (show s1.toks ≠ 0 by omega) (show s1.toks + 1 ≠ 0 by omega) (show s1.toks ≠ s1.toks + 1 by omega) hyz hb fun t' k => ⟨.str (Txt.replace a y z), H1, I1.tok k, ⟨t', rfl⟩, q⟩
end
end Jg

namespace K04
open PySem PySem.Spec PyProof.Rows L2 Jg
local macro_rules | `(tactic| walk_at "rd1") => `(tactic| (first
  | refine ⟨_, rfl, ?_⟩
  | refine ⟨_, _, rfl, rfl, ?_⟩
  | refine ⟨_, _, rfl, ?_⟩
  | refine ⟨rfl, ?_⟩
  | (refine ⟨show (0 : Int) < _ by omega, ?_⟩)
  | (refine ⟨Or.inl ⟨by omega, by omega⟩, ?_⟩)
  | (refine ⟨Or.inr ⟨by omega, by omega⟩, ?_⟩)
  | (refine ⟨(⟨by decide, by decide, by decide⟩ : CPow _ _), ?_⟩)
  | refine Or.inl ⟨_, rfl, ?_⟩
  | refine Or.inr ⟨_, rfl, ?_⟩
  | fail "rd"))
local macro_rules | `(tactic| walk_at "rd") => `(tactic| repeat' walk_at "rd1")


def top (i : Nat) : Stmt := PySem.Challenge.pw_gaplesskeys_k04_ranges_moved_and_written.main.body.getD i (.Pass ⟨0, 0, 0, 0⟩)
theorem q_true {Q : VK} {b : Bool} {H : Hp} (e : b = true) (h : Q (.bl true) H) : Q (.bl b) H := e ▸ h
def B : Int := 10 ^ 60
theorem B_eq : B = 1000000000000000000000000000000000000000000000000000000000000 := by decide +kernel
/-! ### the data of a range -/
theorem klh : ¬ (("_low" : Str) = "_high") := by decide +kernel
theorem khl : ¬ (("_high" : Str) = "_low") := by decide +kernel
def flds (r : Int × Int) : List (Str × V) := [("_low", .int r.1), ("_high", .int r.2)]
theorem put_hi (lo hi : Int) : putF "_high" (.int hi) [(("_low" : Str), V.int lo)] = flds (lo, hi) := by
  show (if ("_low" : Str) = "_high" then _ else _) = _
  rw [if_neg klh]; rfl
theorem put_lo2 (r : Int × Int) (z : Int) : putF "_low" (.int z) (flds r) = flds (z, r.2) := by
  show (if ("_low" : Str) = "_low" then _ else _) = _
  rw [if_pos rfl]; rfl
theorem put_hi2 (r : Int × Int) (z : Int) : putF "_high" (.int z) (flds r) = flds (r.1, z) := by
  show (if ("_low" : Str) = "_high" then _ else _ :: (if ("_high" : Str) = "_high" then _ else _)) = _
  rw [if_neg klh, if_pos rfl]; rfl
theorem get_lo (r : Int × Int) : (flds r).lookup ("_low" : Str) = some (.int r.1) := by
  have e : ((("_low" : Str)) == ("_low" : Str)) = true := by decide +kernel
  simp only [flds, List.lookup, e]
theorem get_hi (r : Int × Int) : (flds r).lookup ("_high" : Str) = some (.int r.2) := by
  have e1 : ((("_high" : Str)) == ("_low" : Str)) = false := by decide +kernel
  have e2 : ((("_high" : Str)) == ("_high" : Str)) = true := by decide +kernel
  simp only [flds, List.lookup, e1, e2]
theorem get_no (r : Int × Int) {m : Str} (h1 : (m == ("_low" : Str)) = false) (h2 : (m == ("_high" : Str)) = false) : (flds r).lookup m = none := by
  simp only [flds, List.lookup, h1, h2]
/-- a range stands at p -/
def RAt (C : Addr) (H : Hp) (p : Addr) (r : Int × Int) : Prop := ∃ dx, H p = some (.ins C dx (flds r))
def oV : Option Int → V
  | none => .non
  | some i => .int i
/-- the pair that __init__ keeps -/
def mkR (f : Int) : Option Int → Int × Int
  | none => (f, B)
  | some l => if l < f then (-B, -B - 1) else (f, l)
def Bnd (i : Int) : Prop := -B < i ∧ i < B
def BndO : Option Int → Prop
  | none => True
  | some i => Bnd i
/-- what the walk asks of the text -/
structure Txt (K : PySem.W.Frag) (mg : Str → Option Value) (C : Addr) : Prop where
  cl : Cls K C
  nl : NoAttr K C "_low"
  nh : NoAttr K C "_high"
  sf : PySem.W.selfFirst K C = true
  cRange : mg "Range" = some (.ref C)
  gBOUND : ∃ u, mg "BOUND" = some u ∧ L2.RelV (.int B) u
  b_isinstance : mg "isinstance" = none
  b_int : mg "int" = none
  b_bool : mg "bool" = none
  b_str : mg "str" = none
  b_len : mg "len" = none
  b_max : mg "max" = none
  b_min : mg "min" = none
  b_range : mg "range" = none
  b_repr : mg "repr" = none
  b_sorted : mg "sorted" = none
  b_set : mg "set" = none
  cls_ : PySem.W.findIn K (.ref C) "__class__" = some (some (.builtin "object.__class__"))
  cgt : PySem.W.specialIn K (.builtin "object.__class__") "__get__" = some (some (.builtin "getset_descriptor.__get__"))
  ctk : PySem.W.takesIn K (.builtin "object.__class__") = some true
  mro : PySem.W.mroIn K C (.type "object") = some true
  kCC : PySem.W.kitOne K (.ref C) (.ref C) = some true
  kN : PySem.W.kitOne K (.type "NoneType") (.ref C) = some false
  kB : PySem.W.kitOne K (.type "bool") (.ref C) = some false
  kI : PySem.W.kitOne K (.type "int") (.ref C) = some false
  kS : PySem.W.kitOne K (.type "str") (.ref C) = some false
  kL : PySem.W.kitOne K (.type "list") (.ref C) = some false
  kT : PySem.W.kitOne K (.type "tuple") (.ref C) = some false
  kD : PySem.W.kitOne K (.type "dict") (.ref C) = some false
  kCi : PySem.W.kitOne K (.ref C) (.type "int") = some false
  oCC : PySem.W.notFirst K C (.ref C) = true
/-- other values than ranges and integers: what isinstance says of their types -/
structure OddTy (K : PySem.W.Frag) (C : Addr) (t : Value) : Prop where
  c : PySem.W.kitOne K t (.ref C) = some false
  i : ∃ b1 b2, PySem.W.kitOne K t (.type "int") = some b1 ∧ PySem.W.kitOne K t (.type "bool") = some b2 ∧ (b1 && !b2) = false
section
variable {K : PySem.W.Frag} {mg : Str → Option Value} {C : Addr}
theorem Txt.ty (T : Txt K mg C) {H : Hp} {p : Addr} {r : Int × Int} (h : RAt C H p r) : TyX K H (.ref p) (.ref C) :=
  let ⟨_, e⟩ := h
  .base (.ins e T.cl T.cls_ T.cgt T.ctk T.mro)
end
/-! ### promises -/
abbrev kit (K : PySem.W.Frag) (t : Value) (n : String) (b : Bool) : Prop := PySem.W.kitOne K t (.type n) = some b
def spIsInt (K : PySem.W.Frag) : Sp := fun vs H Q _ => ∃ x t b1 b2, vs = [x] ∧ TyX K H x t ∧ kit K t "int" b1 ∧ (b1 = true → kit K t "bool" b2) ∧ Q (.bl (b1 && !b2)) H
theorem kii {K : PySem.W.Frag} : kit K (.type "int") "int" true := kit_ty (by decide +kernel)
theorem kib {K : PySem.W.Frag} : kit K (.type "int") "bool" false := kit_ty (by decide +kernel)
/-- of an integer, or of a value that is none -/
def spBnd (K : PySem.W.Frag) : Sp := fun vs H Q _ => (∃ i, vs = [.int i] ∧ Q (.bl (decide (-B < i) && decide (i < B))) H) ∨
  (∃ x t b1 b2, vs = [x] ∧ TyX K H x t ∧ kit K t "int" b1 ∧ (b1 = true → kit K t "bool" b2) ∧ (b1 && !b2) = false ∧ Q (.bl false) H)
def spInit (C : Addr) : Sp := fun vs H Q _ => ∃ x dx f l, vs = [.ref x, .int f, oV l] ∧ H x = some (.ins C dx []) ∧ Bnd f ∧ BndO l ∧
  ∀ H', RAt C H' x (mkR f l) → (∀ b o, H b = some o → b ≠ x → H' b = some o) → Q .non H'
section
variable {P : Program} {w : World} {K : PySem.W.Frag} {mg : Str → Option Value} {base : Heap} {C : Addr}
abbrev s_is_integer : Stmt := top 8
theorem sc_is_integer : FnScope ["value"] ["value"] (defScope s_is_integer) := ⟨rfl, rfl, rfl, by decide +kernel, rfl, by decide +kernel, by decide +kernel⟩
theorem ok_is_integer (D : DefK K mg "is_integer" s_is_integer) (T : Txt K mg C) : Cal P w K mg base CX0 1 "is_integer" (spIsInt K) := by
  refine D.cal sc_is_integer (fun _ _ _ _ _ _ us hl => match us, hl with | [_], _ => rfl) (fun vs H Q E h => ?_) fun f cdv A outer s H vs Q E hr h => ?_
  · obtain ⟨x, t, b1, b2, rfl, _⟩ := h; rfl
  · obtain ⟨x, t, b1, b2, rfl, ty, k1, k2, q⟩ := h
    refine ⟨_, (pss_one (ps_ret (pe_and (pe_callB call_isi (by rfl) T.b_isinstance (by decide +kernel) (pa_cons (pv 0) (pa_cons (pe_ty (n := "int") (by rfl) T.b_int (by decide +kernel)) pa_nil))) (pe_one (pe_not (pe_callB call_isi (by rfl) T.b_isinstance (by decide +kernel) (pa_cons (pv 0) (pa_cons (pe_ty (n := "bool") (by rfl) T.b_bool (by decide +kernel)) pa_nil)))))))), ?_⟩
    refine ⟨_, rfl, x, .ty "int", t, _, b1, rfl, .ty "int", ty, k1, b1, rfl, ?_⟩
    cases b1 with
    | false => exact iteF q
    | true => exact iteT ⟨_, rfl, x, .ty "bool", t, _, b2, rfl, .ty "bool", ty, k2 rfl, b2, rfl, q⟩
abbrev s_is_bounded : Stmt := top 9
theorem sc_is_bounded : FnScope ["value"] ["value"] (defScope s_is_bounded) := ⟨rfl, rfl, rfl, by decide +kernel, rfl, by decide +kernel, by decide +kernel⟩
theorem ok_is_bounded (D : DefK K mg "is_bounded" s_is_bounded) (T : Txt K mg C) (G_is_integer : Cal P w K mg base CX0 1 "is_integer" (spIsInt K)) : Cal P w K mg base CX0 2 "is_bounded" (spBnd K) := by
  refine D.cal sc_is_bounded (fun _ _ _ _ _ _ us hl => match us, hl with | [_], _ => rfl) (fun vs H Q E h => ?_) fun f cdv A outer s H vs Q E hr h => ?_
  · rcases h with ⟨i, rfl, _⟩ | ⟨x, t, b1, b2, rfl, _⟩ <;> rfl
  · refine ⟨_, (pss_one (ps_ret (pe_and (pe_c G_is_integer hr (by decide) rfl (pa_cons (pv 0) pa_nil)) (pe_one (pe_chain op_lt op_lt (pe_un un_neg (pe_gc rfl T.gBOUND)) (pv 0) (pe_gc rfl T.gBOUND)))))), ?_⟩
    rcases h with ⟨i, rfl, q⟩ | ⟨x, t, b1, b2, rfl, ty, k1, k2, e, q⟩
    · refine ⟨_, rfl, .int i, _, true, false, rfl, .base (.int i), kii, fun _ => kib, true, rfl, iteT ?_⟩
      refine ⟨B, rfl, _, rfl, -B, i, rfl, rfl, _, rfl, ?_⟩
      by_cases c : -B < i
      · rw [decide_eq_true c]
        refine iteT ?_
        rw [decide_eq_true c] at q
        exact ⟨i, B, rfl, rfl, q⟩
      · rw [decide_eq_false c]
        refine iteF ?_
        rw [decide_eq_false c] at q
        exact q
    · refine ⟨_, rfl, x, t, b1, b2, rfl, ty, k1, k2, _, rfl, ?_⟩
      rw [e]
      exact iteF q
abbrev s_Range_init : Stmt := inClass (top 16) 0
theorem sc_Range_init : FnScope ["self", "first", "last"] ["self", "first", "last"] (defScope s_Range_init) := ⟨rfl, rfl, rfl, by decide +kernel, rfl, by decide +kernel, by decide +kernel⟩
theorem ok_init (D : MetK K C "__init__" "Range.__init__" s_Range_init) (T : Txt K mg C) (G_is_bounded : Cal P w K mg base CX0 2 "is_bounded" (spBnd K)) : Met P w K mg base CX0 3 C "__init__" (spInit C) := by
  refine D.met sc_Range_init (fun _ _ _ _ _ _ us hl => match us, hl with | [_, _, _], _ => rfl) (fun vs H Q E h => ?_) fun f cdv A outer s H vs Q E hr h => ?_
  · obtain ⟨x, dx, f, l, rfl, _⟩ := h; rfl
  · obtain ⟨x, dx, f, l, rfl, hx, bf, bl, q⟩ := h
    refine ⟨_, (pss_cons (ps_if (pt_not (pt_val (pe_c G_is_bounded hr (by decide) rfl (pa_cons (pv 1) pa_nil)))) (pss_one ps_never) pss_nil)
      (pss_cons (ps_if (PW.pt (pw_and (pt_cmpR op_notN (pv 2) pe_non (nomark _)) (pw_and1 (pt_not (pt_val (pe_c G_is_bounded hr (by decide) rfl (pa_cons (pv 2) pa_nil))))))) (pss_one ps_never) pss_nil)
      (pss_cons (ps_fld (pv 0) (pv 1) rfl)
      (pss_cons (ps_fld (pv 0) (pe_ifExp (pt_cmpR op_isN (pv 2) pe_non (nomark _)) (pe_gc rfl T.gBOUND) (pv 2)) rfl)
      (pss_one (ps_if (pt_cmpR op_lt (pe_fld (pv 0) rfl) (pe_fld (pv 0) rfl) (nomark _)) (pss_cons (ps_fld (pv 0) (pe_un un_neg (pe_gc rfl T.gBOUND)) rfl)
      (pss_one (ps_fld (pv 0) (pe_op op_sub (pe_un un_neg (pe_gc rfl T.gBOUND)) pe_int) rfl))) pss_nil)))))), ?_⟩
    have bB : (decide (-B < f) && decide (f < B)) = true := by rw [decide_eq_true bf.1, decide_eq_true bf.2]; rfl
    refine ⟨_, rfl, .inl ⟨f, rfl, _, rfl, ?_⟩⟩
    rw [bB]
    refine iteF ?_
    -- last is none, or a moment too
    have go : ∀ (D : Ends) (sg : L2.St), (decide (oV l = V.non) = true ∨ ∃ i, l = some i) → True := fun _ _ _ => trivial
    have npos : (0 : Nat) < 1000 := by decide
    have one : (1 : Nat) < 1000 := by decide
    have two : (2 : Nat) < 1000 := by decide
    cases l with
    | none =>
      refine ⟨_, rfl, rfl, _, rfl, iteF ?_⟩
      refine ⟨_, rfl, _, rfl, x, C, dx, [], rfl, hx, T.cl, T.nl, npos, ?_⟩
      refine ⟨_, rfl, rfl, _, rfl, iteT ⟨_, rfl, x, C, dx, _, rfl, upd_same, T.cl, T.nh, one, ?_⟩⟩
      rw [upd_upd, show putF "_low" (V.int f) [] = [(("_low" : Str), V.int f)] from rfl, put_hi]
      refine ⟨_, rfl, x, C, dx, _, _, rfl, upd_same, T.cl, T.nh, get_hi _, _, rfl, x, C, dx, _, _, rfl, upd_same, T.cl, T.nl, get_lo _, _, _, rfl, rfl, _, rfl, ?_⟩
      have nl : ¬ B < f := by have := bf.2; omega
      rw [decide_eq_false nl]
      refine iteF (q _ ⟨dx, upd_same⟩ fun b o e n => ?_)
      rw [upd_ne n]; exact e
    | some i =>
      have bi : (decide (-B < i) && decide (i < B)) = true := by rw [decide_eq_true bl.1, decide_eq_true bl.2]; rfl
      refine ⟨_, rfl, rfl, _, rfl, iteT ⟨_, rfl, .inl ⟨i, rfl, _, rfl, ?_⟩⟩⟩
      rw [bi]
      refine iteF ?_
      refine ⟨_, rfl, _, rfl, x, C, dx, [], rfl, hx, T.cl, T.nl, npos, ?_⟩
      refine ⟨_, rfl, rfl, _, rfl, iteF ⟨_, rfl, _, rfl, x, C, dx, _, rfl, upd_same, T.cl, T.nh, one, ?_⟩⟩
      rw [upd_upd, show putF "_low" (V.int f) [] = [(("_low" : Str), V.int f)] from rfl, show oV (some i) = V.int i from rfl, put_hi]
      refine ⟨_, rfl, x, C, dx, _, _, rfl, upd_same, T.cl, T.nh, get_hi _, _, rfl, x, C, dx, _, _, rfl, upd_same, T.cl, T.nl, get_lo _, _, _, rfl, rfl, _, rfl, ?_⟩
      by_cases c : i < f
      · rw [decide_eq_true c]
        refine iteT ⟨_, rfl, _, rfl, x, C, dx, _, rfl, upd_same, T.cl, T.nl, two, ?_⟩
        rw [put_lo2, upd_upd]
        refine ⟨_, rfl, _, _, rfl, rfl, _, rfl, x, C, dx, _, rfl, upd_same, T.cl, T.nh, two, ?_⟩
        rw [put_hi2, upd_upd]
        refine q _ ⟨dx, ?_⟩ fun b o e n => ?_
        · rw [upd_same]
          show some (HO.ins C dx (flds (-B, -B - 1))) = some (HO.ins C dx (flds (if i < f then (-B, -B - 1) else (f, i))))
          rw [if_pos c]
        · rw [upd_ne n]; exact e
      · rw [decide_eq_false c]
        refine iteF (q _ ⟨dx, ?_⟩ fun b o e n => ?_)
        · rw [upd_same]
          show some (HO.ins C dx (flds (f, i))) = some (HO.ins C dx (flds (if i < f then (-B, -B - 1) else (f, i))))
          rw [if_neg c]
        · rw [upd_ne n]; exact e
end

/-! ### draws -/
theorem seq_upd {K : PySem.W.Frag} {H : Hp} {l p : Addr} {xs : List V} {o : HO} (h : SqL K H l xs) (n : l ≠ p) : SqL K (upd H p o) l xs := by
  rcases h with (h | ⟨z, h⟩) | h
  · exact .inl (.inl (by rw [upd_ne n]; exact h))
  · exact .inl (.inr ⟨z, by rw [upd_ne n]; exact h⟩)
  · exact .inr h
theorem ne_dec {x y : Int} : decide (V.int x = V.int y) = decide (x = y) := by
  by_cases c : x = y
  · rw [c, decide_eq_true rfl, decide_eq_true rfl]
  · rw [decide_eq_false c, decide_eq_false fun z => c (V.int.inj z)]
def spStream (K : PySem.W.Frag) : Sp := fun vs H Q _ => ∃ (a : Addr) (ns : List Int) (k : Nat), vs = [.ref a, .int k] ∧ SqL K H a (ns.map V.int) ∧ k ≤ 1000 ∧
  ∀ p x y, H p = none → 0 ≤ x → Q (.ref p) (upd H p (.lst [.int x, .int y]))
def spDraw : Sp := fun vs H Q _ => ∃ p a b n, vs = [.ref p, .int n] ∧ H p = some (.lst [.int a, .int b]) ∧ 0 ≤ a ∧ 0 < n ∧ n.natAbs < 2 ^ 300 ∧
  ∀ v a' b', 0 ≤ v → v < n → 0 ≤ a' → Q (.int v) (upd H p (.lst [.int a', .int b']))
def spChoose (K : PySem.W.Frag) : Sp := fun vs H Q _ => ∃ p l a b xs, vs = [.ref p, .ref l] ∧ H p = some (.lst [.int a, .int b]) ∧ 0 ≤ a ∧ SqL K H l xs ∧ l ≠ p ∧ 0 < xs.length ∧ xs.length < 1000 ∧
  ∀ (i : Nat) (v : V) (a' b' : Int), xs[i]? = some v → 0 ≤ a' → Q v (upd H p (.lst [.int a', .int b']))
theorem i1000 {n : Int} (h0 : 0 ≤ n) (h : n < 1000) : n.natAbs < 2 ^ 300 := by
  have : n.natAbs < 1024 := by omega
  exact Nat.lt_of_lt_of_le this (by decide +kernel)
section
variable {P : Program} {w : World} {K : PySem.W.Frag} {mg : Str → Option Value} {base : Heap} {C : Addr}
abbrev s_law_stream : Stmt := top 18
theorem sc_law_stream : FnScope ["script", "k", "cell", "size", "mixed"] ["script", "k"] (defScope s_law_stream) := ⟨rfl, rfl, rfl, by decide +kernel, rfl, by decide +kernel, by decide +kernel⟩
theorem ok_stream (D : DefK K mg "_law_stream" s_law_stream) (T : Txt K mg C) : Cal P w K mg base CX0 1 "_law_stream" (spStream K) := by
  refine D.cal sc_law_stream (fun _ _ _ _ _ _ us hl => match us, hl with | [_, _], _ => rfl) (fun vs H Q E h => ?_) fun f cdv A outer s H vs Q E hr h => ?_
  · obtain ⟨a, ns, k, rfl, _⟩ := h; rfl
  · obtain ⟨a, ns, k, rfl, hS, hk, q⟩ := h
    refine ⟨_, (pss_cons (ps_set (i := 2) sc_law_stream.nd rfl (Or.inl rfl) pe_int)
      (pss_cons (ps_if (pt_cmpR op_lt (pv 1) (pe_callB call_len_seq (by rfl) T.b_len (by decide +kernel) (pa_cons (pv 0) pa_nil)) (nomark _)) (pss_one (ps_set (i := 2) sc_law_stream.nd rfl (Or.inl rfl) (pe_ix (r := rIxL K) ix_list (pv 0) (pv 1) (fun _ _ => rfl)))) pss_nil)
      (pss_cons (ps_set (i := 3) sc_law_stream.nd rfl (Or.inl rfl) (pe_callB (call_max2 rfl) (by rfl) T.b_max (by decide +kernel) (pa_cons (pv 2) (pa_cons (pe_op op_sub (pe_un un_neg pe_int) (pv 2)) pa_nil))))
      (pss_cons (ps_set (i := 4) sc_law_stream.nd rfl (Or.inl rfl) (pe_op op_mod (pe_op op_mul (pe_op op_add (pe_op op_add (pe_op op_add (pe_op op_mod (pv 3) pe_int) (pe_op op_mul (pe_op op_mul pe_int (pv 1)) (pv 1))) (pe_op op_mul pe_int (pv 1))) pe_int) pe_int) pe_int))
      (pss_one (ps_ret (pe_lst (pa_cons (pe_op op_mul (pv 3) (pe_callTy call_int1 (by rfl) T.b_int (by decide +kernel) (pa_cons (pe_cmpR op_ge (pv 3) (pe_op op_pow pe_int pe_int) (nomark _)) pa_nil))) (pa_cons (pv 4) pa_nil))))))))), ?_⟩
    have kb : -(2 ^ 64 : Int) < (k : Int) ∧ (k : Int) < 2 ^ 64 := by omega
    refine ⟨_, rfl, _, rfl, a, _, rfl, .inl hS, _, _, rfl, rfl, _, rfl, ?_⟩
    rw [List.length_map]
    by_cases c : (k : Int) < (ns.length : Int)
    · rw [decide_eq_true c]
      have at_ : (ns.map V.int)[k]? = some (V.int (ns[k]'(by omega))) := by rw [List.getElem?_map, List.getElem?_eq_getElem (by omega)]; rfl
      refine iteT ⟨_, rfl, _, rfl, a, _, _, _, rfl, rfl, hS, atI_nat at_, ?_⟩
      walk_at "rd"
      exact ⟨by show 2 ≤ sizeLine; decide, fun p hp => q p _ _ hp (Int.mul_nonneg (by split <;> omega) (by split <;> omega))⟩
    · rw [decide_eq_false c]
      refine iteF ?_
      walk_at "rd"
      exact ⟨by show 2 ≤ sizeLine; decide, fun p hp => q p _ _ hp (Int.mul_nonneg (by split <;> omega) (by split <;> omega))⟩
end
section
variable {P : Program} {w : World} {K : PySem.W.Frag} {mg : Str → Option Value} {base : Heap} {C : Addr}
abbrev s_law_draw : Stmt := top 19
theorem sc_law_draw : FnScope ["stream", "count", "result"] ["stream", "count"] (defScope s_law_draw) := ⟨rfl, rfl, rfl, by decide +kernel, rfl, by decide +kernel, by decide +kernel⟩
theorem ok_draw (D : DefK K mg "_law_draw" s_law_draw) : Cal P w K mg base CX0 1 "_law_draw" spDraw := by
  refine D.cal sc_law_draw (fun _ _ _ _ _ _ us hl => match us, hl with | [_, _], _ => rfl) (fun vs H Q E h => ?_) fun f cdv A outer s H vs Q E hr h => ?_
  · obtain ⟨p, a, b, n, rfl, _⟩ := h; rfl
  · obtain ⟨p, a, b, n, rfl, hp, ha, hn, hb, q⟩ := h
    have at0 : ∀ x y : Int, atI [V.int x, V.int y] 0 = some (V.int x) := fun _ _ => atI_nat (j := 0) rfl
    have at1 : ∀ x y : Int, atI [V.int x, V.int y] 1 = some (V.int y) := fun _ _ => atI_nat (j := 1) rfl
    have hw : CDivW a n := wide_div hn hb (by decide) (by decide)
    refine ⟨_, (pss_cons (ps_if (pt_cmpR op_gt (pe_ix (r := rIxL K) ix_list (pv 0) pe_int (fun _ _ => rfl)) pe_int (nomark _)) (pss_cons (ps_set (i := 2) sc_law_draw.nd rfl (Or.inl rfl) (pe_op op_mod (pe_ix (r := rIxL K) ix_list (pv 0) pe_int (fun _ _ => rfl)) (pv 1)))
      (pss_cons (ps_asg (pe_op op_fdivW (pe_ix (r := rIxL K) ix_list (pv 0) pe_int (fun _ _ => rfl)) (pv 1)) (pg_sub (pv 0) pe_int set_list))
      (pss_one (ps_ret (pv 2))))) pss_nil)
      (pss_cons (ps_asg (pe_op op_mod (pe_op op_add (pe_op op_mul (pe_ix (r := rIxL K) ix_list (pv 0) pe_int (fun _ _ => rfl)) pe_int) pe_int) pe_int) (pg_sub (pv 0) pe_int set_list))
      (pss_one (ps_ret (pe_op op_mod (pe_op op_fdiv (pe_op op_mod (pe_op op_mul (pe_ix (r := rIxL K) ix_list (pv 0) pe_int (fun _ _ => rfl)) (pe_ix (r := rIxL K) ix_list (pv 0) pe_int (fun _ _ => rfl))) pe_int) pe_int) (pv 1)))))), ?_⟩
    refine ⟨_, rfl, p, _, _, _, rfl, rfl, SqL.of hp, at0 _ _, _, _, rfl, rfl, _, rfl, ?_⟩
    by_cases c : 0 < a
    · rw [decide_eq_true c]
      refine iteT ⟨_, rfl, p, _, _, _, rfl, rfl, SqL.of hp, at0 _ _, _, rfl, _, _, rfl, rfl, hn, ?_⟩
      refine ⟨_, rfl, p, _, _, _, rfl, rfl, SqL.of hp, at0 _ _, _, rfl, _, _, rfl, rfl, hw, ?_⟩
      refine ⟨_, rfl, p, _, _, 0, rfl, rfl, hp, rfl, ?_⟩
      refine ⟨_, rfl, q _ _ _ (Int.emod_nonneg _ (by omega)) (Int.emod_lt_of_pos _ hn) (Int.ediv_nonneg ha (by omega))⟩
    · rw [decide_eq_false c]
      refine iteF ⟨_, rfl, p, _, _, _, rfl, rfl, SqL.of hp, at1 _ _, ?_⟩
      walk_at "rd"
      refine ⟨p, _, _, 1, rfl, rfl, hp, rfl, ?_⟩
      refine ⟨_, rfl, p, _, _, _, rfl, rfl, SqL.of upd_same, at1 _ _, _, rfl, p, _, _, _, rfl, rfl, SqL.of upd_same, at1 _ _, _, _, rfl, rfl, ?_⟩
      have m1 := Int.emod_nonneg (b * 39373 + 7) (show (2147483647 : Int) ≠ 0 by decide)
      have m2 := Int.emod_lt_of_pos (b * 39373 + 7) (show (0 : Int) < 2147483647 by decide)
      refine ⟨.inl ⟨by omega, by omega⟩, _, _, rfl, rfl, show (0 : Int) < _ by decide, _, _, rfl, rfl, ⟨by decide, by decide⟩, _, rfl, _, _, rfl, rfl, hn, ?_⟩
      exact q _ _ _ (Int.emod_nonneg _ (by omega)) (Int.emod_lt_of_pos _ hn) ha
abbrev s_law_choose : Stmt := top 20
theorem sc_law_choose : FnScope ["stream", "items"] ["stream", "items"] (defScope s_law_choose) := ⟨rfl, rfl, rfl, by decide +kernel, rfl, by decide +kernel, by decide +kernel⟩
theorem ok_choose (D : DefK K mg "_law_choose" s_law_choose) (T : Txt K mg C) (G_law_draw : Cal P w K mg base CX0 1 "_law_draw" spDraw) : Cal P w K mg base CX0 2 "_law_choose" (spChoose K) := by
  refine D.cal sc_law_choose (fun _ _ _ _ _ _ us hl => match us, hl with | [_, _], _ => rfl) (fun vs H Q E h => ?_) fun f cdv A outer s H vs Q E hr h => ?_
  · obtain ⟨p, l, a, b, xs, rfl, _⟩ := h; rfl
  · obtain ⟨p, l, a, b, xs, rfl, hp, ha, hl, n, h0, h1, q⟩ := h
    refine ⟨_, (pss_one (ps_ret (pe_ix (r := rIxL K) ix_list (pv 1) (pe_c G_law_draw hr (by decide) rfl (pa_cons (pv 0) (pa_cons (pe_callB call_len_seq (by rfl) T.b_len (by decide +kernel) (pa_cons (pv 1) pa_nil)) pa_nil))) (fun _ _ => rfl)))), ?_⟩
    refine ⟨_, rfl, _, rfl, _, rfl, l, xs, rfl, .inl hl, p, a, b, _, rfl, hp, ha, by omega, i1000 (by omega) (by omega), fun v a' b' v0 v1 a0 => ?_⟩
    have hi : v.toNat < xs.length := by omega
    have ev : xs[v.toNat]? = some (xs[v.toNat]'hi) := List.getElem?_eq_getElem hi
    have ev2 : v = ((v.toNat : Nat) : Int) := by omega
    exact ⟨l, xs, v, _, rfl, rfl, seq_upd hl n, at_of ev2 ev, q v.toNat _ a' b' ev a0⟩
end

/-! ### new ranges: empty, _between, and, joined -/
theorem same_new {H : Hp} {p : Addr} {o : HO} (h : H p = none) : Same H (upd H p o) := fun b u e => by rw [upd_ne (ne_of_none e h)]; exact e
theorem same_new' {H H1 : Hp} {p : Addr} {o : HO} (s : Same H H1) (h : H1 p = none) : Same H (upd H1 p o) := s.trans (same_new h)
theorem same_mut {H H1 : Hp} {p : Addr} {o : HO} (s : Same H H1) (h : H p = none) : Same H (upd H1 p o) := fun b u e => by rw [upd_ne (ne_of_none e h)]; exact s b u e
theorem same_tup {K : PySem.W.Frag} {H H' : Hp} {a : Addr} {xs : List V} (e : Same H H') (h : SqT K H a xs) : SqT K H' a xs := by
  rcases h with (h | ⟨o, h⟩) | h
  · exact .inl (.inl (e _ _ h))
  · exact .inl (.inr ⟨o, e _ _ h⟩)
  · exact .inr h
theorem same_rat {C : Addr} {H H' : Hp} {p : Addr} {r : Int × Int} (e : Same H H') (h : RAt C H p r) : RAt C H' p r :=
  let ⟨dx, z⟩ := h
  ⟨dx, e _ _ z⟩
/-- a range as __init__ leaves it -/
def RngOk (r : Int × Int) : Prop := r = (-B, -B - 1) ∨ (Bnd r.1 ∧ r.1 ≤ r.2 ∧ r.2 ≤ B)
/-- hands back a range that was not there before -/
def NewR (C : Addr) (H : Hp) (r : Int × Int) (Q : VK) : Prop := ∀ x H', H x = none → Same H H' → RAt C H' x r → Q (.ref x) H'
def spEmpty (C : Addr) : Sp := fun vs H Q _ => vs = [.ref C] ∧ NewR C H (-B, -B - 1) Q
def btw (lo hi : Int) : Int × Int := if hi < lo then (-B, -B - 1) else (lo, hi)
def spBtw (C : Addr) : Sp := fun vs H Q _ => ∃ lo hi, vs = [.int lo, .int hi] ∧ (lo ≤ hi → Bnd lo ∧ -B < hi ∧ hi ≤ B) ∧ NewR C H (btw lo hi) Q
def spMin : Sp := fun vs H Q _ => ∃ a b, vs = [.int a, .int b] ∧ Q (.int (if a < b then a else b)) H
def spMax : Sp := fun vs H Q _ => ∃ a b, vs = [.int a, .int b] ∧ Q (.int (if b < a then a else b)) H
def andR (r o : Int × Int) : Int × Int := btw (if o.1 < r.1 then r.1 else o.1) (if r.2 < o.2 then r.2 else o.2)
def spAnd (C : Addr) : Sp := fun vs H Q _ => ∃ p q r o, vs = [.ref p, .ref q] ∧ RAt C H p r ∧ RAt C H q o ∧ RngOk r ∧ RngOk o ∧ NewR C H (andR r o) Q
/-- what joined hands back: the other one, itself, None, or a new range -/
def spJoin (C : Addr) : Sp := fun vs H Q _ => ∃ p q r o, vs = [.ref p, .ref q] ∧ RAt C H p r ∧ RAt C H q o ∧ RngOk r ∧ RngOk o ∧
  (r.2 < r.1 → Q (.ref q) H) ∧ (¬ r.2 < r.1 → o.2 < o.1 → Q (.ref p) H) ∧ (¬ r.2 < r.1 → ¬ o.2 < o.1 → (o.2 + 1 < r.1 ∨ r.2 + 1 < o.1) → Q .non H) ∧
  (¬ r.2 < r.1 → ¬ o.2 < o.1 → ¬ (o.2 + 1 < r.1 ∨ r.2 + 1 < o.1) → NewR C H (btw (if r.1 < o.1 then r.1 else o.1) (if o.2 < r.2 then r.2 else o.2)) Q)
theorem rng_mk {f : Int} {l : Option Int} (bf : Bnd f) (bl : BndO l) : RngOk (mkR f l) := by
  have hB := B_eq
  cases l with
  | none => exact .inr ⟨bf, by have := bf.2; show f ≤ B; omega, Int.le_refl _⟩
  | some i =>
    by_cases c : i < f
    · exact .inl (if_pos c)
    · have e : mkR f (some i) = (f, i) := if_neg c
      rw [e]
      exact .inr ⟨bf, by show f ≤ i; omega, by have := bl.2; show i ≤ B; omega⟩
section
variable {P : Program} {w : World} {K : PySem.W.Frag} {mg : Str → Option Value} {base : Heap} {C : Addr} {mc : Value}
abbrev s_Range_empty : Stmt := inClass (top 16) 1
theorem sc_Range_empty : FnScope ["cls"] ["cls"] (defScope s_Range_empty) := ⟨rfl, rfl, rfl, by decide +kernel, rfl, by decide +kernel, by decide +kernel⟩
theorem ok_empty (D : CmtK K C mc "empty" "Range.empty" s_Range_empty) (M_Range : Mak P w K mg base CX0 3 "Range" C (spInit C)) : Cmt P w K mg base CX0 5 C mc "empty" (spEmpty C) := by
  refine D.cmt sc_Range_empty (fun _ _ _ _ _ _ us hl => match us, hl with | [_], _ => rfl) (fun vs H Q E h => ?_) fun f cdv A outer s H vs Q E hr h => ?_
  · obtain ⟨rfl, _⟩ := h; rfl
  · obtain ⟨rfl, k⟩ := h
    refine ⟨_, (pss_one (ps_ret (pe_mkL (i := 0) M_Range hr (by decide) (by rfl) (Or.inl rfl) (pa_cons pe_int (pa_cons (pe_un un_neg pe_int) pa_nil))))), ?_⟩
    refine ⟨rfl, _, rfl, fun x dx nx ndx nex => ⟨x, dx, 0, some (-1), rfl, upd_same, ⟨by decide, by decide⟩, ⟨by decide, by decide⟩, fun H1 R kp => ⟨rfl, ?_⟩⟩⟩
    exact k x H1 nx (Same.made nx ndx kp) R
end

/-! ### ==, is_endless, size -/
def spEqR (K : PySem.W.Frag) (C : Addr) : Sp := fun vs H Q _ => ∃ p x r, vs = [.ref p, x] ∧ RAt C H p r ∧
  ((∃ q o, x = .ref q ∧ RAt C H q o ∧ ∀ H', Same H H' → Q (.bl (decide (r = o))) H') ∨ (∃ t, TyX K H x t ∧ PySem.W.kitOne K t (.ref C) = some false ∧ Q (.bl false) H))
section
variable {P : Program} {w : World} {K : PySem.W.Frag} {mg : Str → Option Value} {base : Heap} {C : Addr}
abbrev s_Range_eq : Stmt := inClass (top 16) 9
theorem sc_Range_eq : FnScope ["self", "other"] ["self", "other"] (defScope s_Range_eq) := ⟨rfl, rfl, rfl, by decide +kernel, rfl, by decide +kernel, by decide +kernel⟩
theorem ok_eq (D : MetK K C "__eq__" "Range.__eq__" s_Range_eq) (T : Txt K mg C) : Met P w K mg base CX0 1 C "__eq__" (spEqR K C) := by
  refine D.met sc_Range_eq (fun _ _ _ _ _ _ us hl => match us, hl with | [_, _], _ => rfl) (fun vs H Q E h => ?_) fun f cdv A outer s H vs Q E hr h => ?_
  · obtain ⟨p, x, r, rfl, _⟩ := h; rfl
  · obtain ⟨p, x, r, rfl, hp0, k⟩ := h
    refine ⟨_, (pss_cons (ps_if (pt_not (pt_val (pe_callB call_isi (by rfl) T.b_isinstance (by decide +kernel) (pa_cons (pv 1) (pa_cons (pe_glob (v := .ref C) rfl T.cRange rfl) pa_nil))))) (pss_one (ps_ret pe_bl)) pss_nil)
      (pss_one (ps_ret (pe_cmpR (op_eqD hr.units) (pe_tup (pa_cons (pe_fld (pv 0) rfl) (pa_cons (pe_fld (pv 0) rfl) pa_nil))) (pe_tup (pa_cons (pe_fld (pv 1) rfl) (pa_cons (pe_fld (pv 1) rfl) pa_nil))) (nomark _))))), ?_⟩
    rcases k with ⟨q, o, rfl, hq0, k⟩ | ⟨t, ty, kt, k⟩
    · obtain ⟨dx, hp⟩ := id hp0
      obtain ⟨dy, hq⟩ := id hq0
      refine ⟨_, rfl, .ref q, .ref C, _, _, true, rfl, .own C, T.ty hq0, T.kCC, _, rfl, iteF ?_⟩
      refine ⟨_, rfl, p, C, dx, _, _, rfl, hp, T.cl, T.nl, get_lo _, _, rfl, p, C, dx, _, _, rfl, hp, T.cl, T.nh, get_hi _, by show 2 ≤ sizeLine; decide, fun t1 n1 => ?_⟩
      have s1 := same_new (o := .tup [.int r.1, .int r.2]) n1
      refine ⟨_, rfl, q, C, dy, _, _, rfl, s1 _ _ hq, T.cl, T.nl, get_lo _, _, rfl, q, C, dy, _, _, rfl, s1 _ _ hq, T.cl, T.nh, get_hi _, by show 2 ≤ sizeLine; decide, fun t2 n2 => ?_⟩
      have s2 := same_new (o := .tup [.int o.1, .int o.2]) n2
      refine ask_eqT (xs := [r.1, r.2]) (ys := [o.1, o.2]) (SqT.of (s2 _ _ upd_same)) (SqT.of upd_same) ?_
      rw [pair_dec]
      exact k _ (s1.trans s2)
    · refine ⟨_, rfl, x, .ref C, _, _, false, rfl, .own C, ty, kt, _, rfl, iteT k⟩
end

/-! ### first, last, truth -/
def firstV (r : Int × Int) : V := if r.2 < r.1 then .non else .int r.1
def lastV (r : Int × Int) : V := if r.2 < r.1 then .non else if r.2 = B then .non else .int r.2
def spFirst (C : Addr) : Sp := fun vs H Q _ => ∃ p r, vs = [.ref p] ∧ RAt C H p r ∧ Q (firstV r) H
def spLast (C : Addr) : Sp := fun vs H Q _ => ∃ p r, vs = [.ref p] ∧ RAt C H p r ∧ Q (lastV r) H
def spBoo (C : Addr) : Sp := fun vs H Q _ => ∃ p r, vs = [.ref p] ∧ RAt C H p r ∧ Q (.bl (decide (r.1 ≤ r.2))) H
section
variable {P : Program} {w : World} {K : PySem.W.Frag} {mg : Str → Option Value} {base : Heap} {C : Addr}
abbrev s_Range_first : Stmt := inClass (top 16) 3
theorem sc_Range_first : FnScope ["self"] ["self"] (defScope s_Range_first) := ⟨rfl, rfl, rfl, by decide +kernel, rfl, by decide +kernel, by decide +kernel⟩
theorem ok_first (D : PrpK K C "first" "Range.first" s_Range_first) (T : Txt K mg C) : Prp P w K mg base CX0 1 C "first" (spFirst C) := by
  refine D.prp sc_Range_first (fun _ _ _ _ _ _ us hl => match us, hl with | [_], _ => rfl) (fun vs H Q E h => ?_) fun f cdv A outer s H vs Q E hr h => ?_
  · obtain ⟨p, r, rfl, _⟩ := h; rfl
  · obtain ⟨p, r, rfl, ⟨dx, hp⟩, k⟩ := h
    refine ⟨_, (pss_one (ps_ret (pe_ifExp (pt_cmpR op_gt (pe_fld (pv 0) rfl) (pe_fld (pv 0) rfl) (nomark _)) pe_non (pe_fld (pv 0) rfl)))), ?_⟩
    refine ⟨_, rfl, p, C, dx, _, _, rfl, hp, T.cl, T.nl, get_lo _, _, rfl, p, C, dx, _, _, rfl, hp, T.cl, T.nh, get_hi _, _, _, rfl, rfl, _, rfl, ?_⟩
    unfold firstV at k
    by_cases c : r.2 < r.1
    · rw [if_pos c] at k
      exact iteTe (decide_eq_true c) k
    · rw [if_neg c] at k
      exact iteFe (decide_eq_false c) ⟨_, rfl, p, C, dx, _, _, rfl, hp, T.cl, T.nl, get_lo _, k⟩
abbrev s_Range_last : Stmt := inClass (top 16) 4
theorem sc_Range_last : FnScope ["self"] ["self"] (defScope s_Range_last) := ⟨rfl, rfl, rfl, by decide +kernel, rfl, by decide +kernel, by decide +kernel⟩
theorem ok_last (D : PrpK K C "last" "Range.last" s_Range_last) (T : Txt K mg C) : Prp P w K mg base CX0 1 C "last" (spLast C) := by
  refine D.prp sc_Range_last (fun _ _ _ _ _ _ us hl => match us, hl with | [_], _ => rfl) (fun vs H Q E h => ?_) fun f cdv A outer s H vs Q E hr h => ?_
  · obtain ⟨p, r, rfl, _⟩ := h; rfl
  · obtain ⟨p, r, rfl, ⟨dx, hp⟩, k⟩ := h
    refine ⟨_, (pss_cons (ps_if (PW.pt (pw_or (pt_cmpR op_gt (pe_fld (pv 0) rfl) (pe_fld (pv 0) rfl) (nomark _)) (pw_or1 (pt_cmpR op_eq (pe_fld (pv 0) rfl) (pe_gc rfl T.gBOUND) (nomark _))))) (pss_one (ps_ret pe_non)) pss_nil)
      (pss_one (ps_ret (pe_fld (pv 0) rfl)))), ?_⟩
    refine ⟨_, rfl, p, C, dx, _, _, rfl, hp, T.cl, T.nl, get_lo _, _, rfl, p, C, dx, _, _, rfl, hp, T.cl, T.nh, get_hi _, _, _, rfl, rfl, _, rfl, ?_⟩
    unfold lastV at k
    by_cases c : r.2 < r.1
    · rw [if_pos c] at k
      exact iteTe (decide_eq_true c) k
    · rw [if_neg c] at k
      refine iteFe (decide_eq_false c) ⟨_, rfl, p, C, dx, _, _, rfl, hp, T.cl, T.nh, get_hi _, rfl, ?_⟩
      rw [ne_dec]
      by_cases c2 : r.2 = B
      · rw [if_pos c2] at k
        exact ⟨_, rfl, iteTe (decide_eq_true c2) k⟩
      · rw [if_neg c2] at k
        exact ⟨_, rfl, iteFe (decide_eq_false c2) ⟨_, rfl, p, C, dx, _, _, rfl, hp, T.cl, T.nh, get_hi _, k⟩⟩
abbrev s_Range_bool : Stmt := inClass (top 16) 8
theorem sc_Range_bool : FnScope ["self"] ["self"] (defScope s_Range_bool) := ⟨rfl, rfl, rfl, by decide +kernel, rfl, by decide +kernel, by decide +kernel⟩
theorem ok_bool (D : MetK K C "__bool__" "Range.__bool__" s_Range_bool) (T : Txt K mg C) : Met P w K mg base CX0 1 C "__bool__" (spBoo C) := by
  refine D.met sc_Range_bool (fun _ _ _ _ _ _ us hl => match us, hl with | [_], _ => rfl) (fun vs H Q E h => ?_) fun f cdv A outer s H vs Q E hr h => ?_
  · obtain ⟨p, r, rfl, _⟩ := h; rfl
  · obtain ⟨p, r, rfl, ⟨dx, hp⟩, k⟩ := h
    refine ⟨_, (pss_one (ps_ret (pe_callTy call_bool1 (by rfl) T.b_bool (by decide +kernel) (pa_cons (pe_cmpR op_le (pe_fld (pv 0) rfl) (pe_fld (pv 0) rfl) (nomark _)) pa_nil)))), ?_⟩
    refine ⟨_, rfl, p, C, dx, _, _, rfl, hp, T.cl, T.nl, get_lo _, _, rfl, p, C, dx, _, _, rfl, hp, T.cl, T.nh, get_hi _, _, _, rfl, rfl, .inr ⟨_, rfl, k⟩⟩
end

end K04

namespace K04
open PySem PySem.Spec PyProof.Rows L2 Jg
local macro_rules | `(tactic| walk_at "rd1") => `(tactic| (first
  | refine ⟨_, rfl, ?_⟩
  | refine ⟨_, _, rfl, rfl, ?_⟩
  | refine ⟨_, _, rfl, ?_⟩
  | refine ⟨rfl, ?_⟩
  | (refine ⟨show (0 : Int) < _ by omega, ?_⟩)
  | (refine ⟨Or.inl ⟨by omega, by omega⟩, ?_⟩)
  | (refine ⟨Or.inr ⟨by omega, by omega⟩, ?_⟩)
  | (refine ⟨(⟨by decide, by decide, by decide⟩ : CPow _ _), ?_⟩)
  | refine Or.inl ⟨_, rfl, ?_⟩
  | refine Or.inr ⟨_, rfl, ?_⟩
  | fail "rd"))
local macro_rules | `(tactic| walk_at "rd") => `(tactic| repeat' walk_at "rd1")


/-! ### what is raised -/
structure ExnQ (K : PySem.W.Frag) (mg : Str → Option Value) (x : Str) (CI : Addr) (qual : Str) (st : Stmt) (f : Str) : Prop where
  mg_ : mg x = some (.ref CI)
  ovr : Ovr K CI
  xk : ExcK K CI
  no : PySem.W.findIn K (.ref CI) f = some none
  ini : ∃ fI fd, Fun K "__init__" qual st fI fd ∧ PySem.W.findIn K (.ref CI) "__init__" = some (some (.ref fI)) ∧ PySem.W.typeIn K (.ref fI) = some (.type "function")
  te : PySem.W.exmOne K (.ref CI) (.ref CI) = some true
/-- no bounded integer, whatever comes -/
def Bad (K : PySem.W.Frag) (H : Hp) (y : V) : Prop := (∃ i, y = .int i ∧ (decide (-B < i) && decide (i < B)) = false) ∨
  ∃ t b1 b2, (∀ H', Same H H' → TyX K H' y t) ∧ kit K t "int" b1 ∧ (b1 = true → kit K t "bool" b2) ∧ (b1 && !b2) = false
theorem Bad.keep {K : PySem.W.Frag} {H H' : Hp} {y : V} (h : Bad K H y) (s : Same H H') : Bad K H' y := by
  rcases h with h | ⟨t, b1, b2, ty, r⟩
  · exact .inl h
  · exact .inr ⟨t, b1, b2, fun H2 s2 => ty H2 (s.trans s2), r⟩
def spShift (K : PySem.W.Frag) (CM : Addr) : Sp := fun vs H Q E => ∃ y, vs = [y] ∧ ((∃ d, y = .int d ∧ Bnd d ∧ Q y H) ∨ (Bad K H y ∧ ∀ d, H d = none → E (.ref CM) (some d) (upd H d (.xd [(("value" : Str), y)]))))
def mvR (r : Int × Int) (d : Int) : Int × Int := if r.2 < r.1 then (-B, -B - 1) else (r.1 + d, if r.2 = B then B else r.2 + d)
/-- so far it may be moved -/
def MvOk (r : Int × Int) (d : Int) : Prop := RngOk r ∧ (¬ r.2 < r.1 → Bnd (r.1 + d) ∧ (r.2 ≠ B → Bnd (r.2 + d)))
def spMv (C : Addr) : Sp := fun vs H Q _ => ∃ p r d, vs = [.ref p, .int d] ∧ RAt C H p r ∧ MvOk r d ∧ NewR C H (mvR r d) Q
/-- by d, whatever its sign: sg -/
def spAddX (K : PySem.W.Frag) (C CM : Addr) (sg : Int → Int) : Sp := fun vs H Q E => ∃ p r y, vs = [.ref p, y] ∧ RAt C H p r ∧
  ((∃ d, y = .int d ∧ Bnd d ∧ MvOk r (sg d) ∧ NewR C H (mvR r (sg d)) Q) ∨ (Bad K H y ∧ ∀ d, H d = none → E (.ref CM) (some d) (upd H d (.xd [(("value" : Str), y)]))))
def tS (i : Int) : Str := Str.ofString (toString i)
def strR (r : Int × Int) : Str := if r.2 < r.1 then "empty" else if r.2 = B then tS r.1 ++ " -" else tS r.1 ++ " " ++ tS r.2
def spStr (C : Addr) : Sp := fun vs H Q _ => ∃ p r, vs = [.ref p] ∧ RAt C H p r ∧ RngOk r ∧ Q (.str (strR r)) H
theorem big_log {i : Int} (h : i.natAbs < 10 ^ 61) : i.natAbs.log2 < 1920 := Nat.lt_of_lt_of_le (PySem.Flt.log2_lt_of (k := 300) (by decide) (Nat.lt_of_lt_of_le h (by decide +kernel))) (by decide)
theorem big_len {i : Int} (h : i.natAbs < 10 ^ 61) : (tS i).length ≤ 70 := by
  have z := int_text_length_le10 (k := 61) (by decide) h
  show (Str.ofString (toString i)).length ≤ 70
  rw [PySem.ofString_length]
  omega
theorem p61 : (10 : Nat) ^ 61 = 10000000000000000000000000000000000000000000000000000000000000 := by decide +kernel
theorem bnd61 {i : Int} (h : Bnd i) : i.natAbs < 10 ^ 61 := by
  have hB := B_eq
  have h1 : -B < i := h.1
  have h2 : i < B := h.2
  rw [p61]; omega
section
variable {P : Program} {w : World} {K : PySem.W.Frag} {mg : Str → Option Value} {base : Heap} {C CM CP : Addr} {mc : Value}
abbrev s_InvalidMoment_init : Stmt := inClass (top 4) 0
theorem sc_InvalidMoment_init : FnScope ["self", "value"] ["self", "value"] (defScope s_InvalidMoment_init) := ⟨rfl, rfl, rfl, by decide +kernel, rfl, by decide +kernel, by decide +kernel⟩
theorem ok_minit (D : ExnQ K mg "InvalidMoment" CM "InvalidMoment.__init__" s_InvalidMoment_init "value") : ExnB P w K mg base 1 "InvalidMoment" CM (spX CM "value") := by
  obtain ⟨fI, fd, F, a, ty⟩ := D.ini
  refine ⟨D.mg_, D.ovr, fI, fd, _, F.ok sc_InvalidMoment_init (fun vs H Q E h => ?_) (fun cdv A outer s H vs Q E hr h => ?_), a, ty, F.binds (fun _ _ _ _ _ _ us hl => match us, hl with | [_, _], _ => rfl)⟩
  · obtain ⟨a, y, rfl, _⟩ := h; rfl
  · obtain ⟨a, y, rfl, ha, k⟩ := h
    exact ⟨_, (pss_one (ps_keep (pv 0) (pv 1))), _, rfl, _, rfl, a, CM, rfl, D.ovr, D.no, ha, fun dx n e => k dx n e⟩
abbrev s_ParseError_init : Stmt := inClass (top 5) 0
theorem sc_ParseError_init : FnScope ["self", "line"] ["self", "line"] (defScope s_ParseError_init) := ⟨rfl, rfl, rfl, by decide +kernel, rfl, by decide +kernel, by decide +kernel⟩
theorem ok_pinit (D : ExnQ K mg "ParseError" CP "ParseError.__init__" s_ParseError_init "line") : ExnB P w K mg base 1 "ParseError" CP (spX CP "line") := by
  obtain ⟨fI, fd, F, a, ty⟩ := D.ini
  refine ⟨D.mg_, D.ovr, fI, fd, _, F.ok sc_ParseError_init (fun vs H Q E h => ?_) (fun cdv A outer s H vs Q E hr h => ?_), a, ty, F.binds (fun _ _ _ _ _ _ us hl => match us, hl with | [_, _], _ => rfl)⟩
  · obtain ⟨a, y, rfl, _⟩ := h; rfl
  · obtain ⟨a, y, rfl, ha, k⟩ := h
    exact ⟨_, (pss_one (ps_keep (pv 0) (pv 1))), _, rfl, _, rfl, a, CP, rfl, D.ovr, D.no, ha, fun dx n e => k dx n e⟩
abbrev s_checked_shift : Stmt := top 14
theorem sc_checked_shift : FnScope ["value"] ["value"] (defScope s_checked_shift) := ⟨rfl, rfl, rfl, by decide +kernel, rfl, by decide +kernel, by decide +kernel⟩
theorem ok_shift (D : DefK K mg "_checked_shift" s_checked_shift) (T : Txt K mg C) (G_is_bounded : Cal P w K mg base CX0 2 "is_bounded" (spBnd K)) (G_InvalidMoment : ExnB P w K mg base 1 "InvalidMoment" CM (spX CM "value")) : Cal P w K mg base (L2.CX P w) 3 "_checked_shift" (spShift K CM) := by
  refine D.calX sc_checked_shift (fun _ _ _ _ _ _ us hl => match us, hl with | [_], _ => rfl) (fun vs H Q E h => ?_) fun f cdv A outer s H vs Q E hr h => ?_
  · obtain ⟨y, rfl, _⟩ := h; rfl
  · obtain ⟨y, rfl, h⟩ := h
    refine ⟨_, (pss_cons (ps_if (pt_not (pt_val (pe_c G_is_bounded hr (by decide) rfl (pa_cons (pv 0) pa_nil)))) (pss_one (ps_raise rfl (takes_of rfl rfl rfl rfl) (pmk_b G_InvalidMoment hr (by decide) rfl (pa_cons (pv 0) pa_nil)))) pss_nil)
      (pss_one (ps_ret (pv 0)))), ?_⟩
    rcases h with ⟨d, rfl, bd, q⟩ | ⟨bad, k⟩
    · refine ⟨_, rfl, .inl ⟨d, rfl, _, rfl, ?_⟩⟩
      rw [decide_eq_true bd.1, decide_eq_true bd.2]
      exact iteF ⟨_, rfl, q⟩
    · rcases bad with ⟨i, rfl, e⟩ | ⟨t, b1, b2, ty, r1, r2, r3⟩
      · refine ⟨_, rfl, .inl ⟨i, rfl, _, rfl, ?_⟩⟩
        rw [e]
        exact iteT ⟨_, rfl, x_read fun d nd => k d nd⟩
      · exact ⟨_, rfl, .inr ⟨y, t, b1, b2, rfl, ty H (.refl H), r1, r2, r3, _, rfl, iteT ⟨_, rfl, x_read fun d nd => k d nd⟩⟩⟩
abbrev s_Range_moved : Stmt := inClass (top 16) 19
theorem sc_Range_moved : FnScope ["self", "shift"] ["self", "shift"] (defScope s_Range_moved) := ⟨rfl, rfl, rfl, by decide +kernel, rfl, by decide +kernel, by decide +kernel⟩
theorem ok_moved (D : MetK K C "_moved" "Range._moved" s_Range_moved) (T : Txt K mg C) (M_Range : Mak P w K mg base CX0 3 "Range" C (spInit C)) (G_empty : Cmt P w K mg base CX0 5 C mc "empty" (spEmpty C)) : Met P w K mg base CX0 6 C "_moved" (spMv C) := by
  refine D.met sc_Range_moved (fun _ _ _ _ _ _ us hl => match us, hl with | [_, _], _ => rfl) (fun vs H Q E h => ?_) fun f cdv A outer s H vs Q E hr h => ?_
  · obtain ⟨p, r, d, rfl, _⟩ := h; rfl
  · obtain ⟨p, r, d, rfl, hp0, ⟨ok, mv⟩, k⟩ := h
    obtain ⟨dx, hp⟩ := id hp0
    refine ⟨_, (pss_cons (ps_if (pt_cmpR op_gt (pe_fld (pv 0) rfl) (pe_fld (pv 0) rfl) (nomark _)) (pss_one (ps_ret (pe_cm0 G_empty hr (by decide) (pe_glob (v := .ref C) rfl T.cRange rfl)))) pss_nil)
      (pss_one (ps_ret (pe_mk M_Range hr (by decide) rfl (pa_cons (pe_op op_add (pe_fld (pv 0) rfl) (pv 1)) (pa_cons (pe_ifExp (pt_cmpR op_eq (pe_fld (pv 0) rfl) (pe_gc rfl T.gBOUND) (nomark _)) pe_non (pe_op op_add (pe_fld (pv 0) rfl) (pv 1))) pa_nil)))))), ?_⟩
    refine ⟨_, rfl, p, C, dx, _, _, rfl, hp, T.cl, T.nl, get_lo _, _, rfl, p, C, dx, _, _, rfl, hp, T.cl, T.nh, get_hi _, _, _, rfl, rfl, _, rfl, ?_⟩
    unfold mvR at k
    by_cases c : r.2 < r.1
    · rw [if_pos c] at k
      exact iteTe (decide_eq_true c) ⟨rfl, rfl, k⟩
    · rw [if_neg c] at k
      obtain ⟨m1, m2⟩ := mv c
      have hB := B_eq
      refine iteFe (decide_eq_false c) ⟨_, rfl, p, C, dx, _, _, rfl, hp, T.cl, T.nl, get_lo _, _, rfl, _, _, rfl, rfl, _, rfl, p, C, dx, _, _, rfl, hp, T.cl, T.nh, get_hi _, rfl, _, rfl, ?_⟩
      rw [ne_dec]
      by_cases c2 : r.2 = B
      · rw [if_pos c2] at k
        refine iteTe (decide_eq_true c2) fun x dx1 nx ndx nex => ⟨x, dx1, r.1 + d, none, rfl, upd_same, m1, trivial, fun H1 R kp => ⟨rfl, k x H1 nx (Same.made nx ndx kp) R⟩⟩
      · rw [if_neg c2] at k
        refine iteFe (decide_eq_false c2) ⟨_, rfl, p, C, dx, _, _, rfl, hp, T.cl, T.nh, get_hi _, _, rfl, _, _, rfl, rfl, fun x dx1 nx ndx nex => ⟨x, dx1, r.1 + d, some (r.2 + d), rfl, upd_same, m1, m2 c2, fun H1 R kp => ⟨rfl, k x H1 nx (Same.made nx ndx kp) ?_⟩⟩⟩
        have e : mkR (r.1 + d) (some (r.2 + d)) = (r.1 + d, r.2 + d) := if_neg (by omega)
        rw [e] at R
        exact R
abbrev s_Range_add : Stmt := inClass (top 16) 16
theorem sc_Range_add : FnScope ["self", "other"] ["self", "other"] (defScope s_Range_add) := ⟨rfl, rfl, rfl, by decide +kernel, rfl, by decide +kernel, by decide +kernel⟩
theorem ok_add (D : MetK K C "__add__" "Range.__add__" s_Range_add) (T : Txt K mg C) (G_moved : Met P w K mg base CX0 6 C "_moved" (spMv C)) (G_checked_shift : Cal P w K mg base (L2.CX P w) 3 "_checked_shift" (spShift K CM)) : Met P w K mg base (L2.CX P w) 7 C "__add__" (spAddX K C CM id) := by
  refine D.metX sc_Range_add (fun _ _ _ _ _ _ us hl => match us, hl with | [_, _], _ => rfl) (fun vs H Q E h => ?_) fun f cdv A outer s H vs Q E hr h => ?_
  · obtain ⟨p, r, y, rfl, _⟩ := h; rfl
  · obtain ⟨p, r, y, rfl, hp0, h⟩ := h
    obtain ⟨dx, hp⟩ := id hp0
    refine ⟨_, (pss_one (ps_ret (pe_m G_moved T.cl hr (by decide) (pv 0) (pa_cons (pe_cS G_checked_shift (takes_of rfl rfl rfl rfl) hr (by decide) rfl (pa_cons (pv 1) pa_nil)) pa_nil)))), ?_⟩
    rcases h with ⟨d, rfl, bd, mv, k⟩ | ⟨bad, k⟩
    · exact ⟨_, rfl, p, dx, _, rfl, hp, get_no _ (by decide +kernel) (by decide +kernel), _, rfl, .int d, rfl, .inl ⟨d, rfl, bd, p, r, d, rfl, hp0, mv, k⟩⟩
    · exact ⟨_, rfl, p, dx, _, rfl, hp, get_no _ (by decide +kernel) (by decide +kernel), _, rfl, y, rfl, .inr ⟨bad, k⟩⟩
abbrev s_Range_radd : Stmt := inClass (top 16) 17
theorem sc_Range_radd : FnScope ["self", "other"] ["self", "other"] (defScope s_Range_radd) := ⟨rfl, rfl, rfl, by decide +kernel, rfl, by decide +kernel, by decide +kernel⟩
theorem ok_radd (D : MetK K C "__radd__" "Range.__radd__" s_Range_radd) (T : Txt K mg C) (G_moved : Met P w K mg base CX0 6 C "_moved" (spMv C)) (G_checked_shift : Cal P w K mg base (L2.CX P w) 3 "_checked_shift" (spShift K CM)) : Met P w K mg base (L2.CX P w) 7 C "__radd__" (spAddX K C CM id) := by
  refine D.metX sc_Range_radd (fun _ _ _ _ _ _ us hl => match us, hl with | [_, _], _ => rfl) (fun vs H Q E h => ?_) fun f cdv A outer s H vs Q E hr h => ?_
  · obtain ⟨p, r, y, rfl, _⟩ := h; rfl
  · obtain ⟨p, r, y, rfl, hp0, h⟩ := h
    obtain ⟨dx, hp⟩ := id hp0
    refine ⟨_, (pss_one (ps_ret (pe_m G_moved T.cl hr (by decide) (pv 0) (pa_cons (pe_cS G_checked_shift (takes_of rfl rfl rfl rfl) hr (by decide) rfl (pa_cons (pv 1) pa_nil)) pa_nil)))), ?_⟩
    rcases h with ⟨d, rfl, bd, mv, k⟩ | ⟨bad, k⟩
    · exact ⟨_, rfl, p, dx, _, rfl, hp, get_no _ (by decide +kernel) (by decide +kernel), _, rfl, .int d, rfl, .inl ⟨d, rfl, bd, p, r, d, rfl, hp0, mv, k⟩⟩
    · exact ⟨_, rfl, p, dx, _, rfl, hp, get_no _ (by decide +kernel) (by decide +kernel), _, rfl, y, rfl, .inr ⟨bad, k⟩⟩
abbrev s_Range_sub : Stmt := inClass (top 16) 18
theorem sc_Range_sub : FnScope ["self", "other"] ["self", "other"] (defScope s_Range_sub) := ⟨rfl, rfl, rfl, by decide +kernel, rfl, by decide +kernel, by decide +kernel⟩
theorem ok_sub (D : MetK K C "__sub__" "Range.__sub__" s_Range_sub) (T : Txt K mg C) (G_moved : Met P w K mg base CX0 6 C "_moved" (spMv C)) (G_checked_shift : Cal P w K mg base (L2.CX P w) 3 "_checked_shift" (spShift K CM)) : Met P w K mg base (L2.CX P w) 7 C "__sub__" (spAddX K C CM fun d => -d) := by
  refine D.metX sc_Range_sub (fun _ _ _ _ _ _ us hl => match us, hl with | [_, _], _ => rfl) (fun vs H Q E h => ?_) fun f cdv A outer s H vs Q E hr h => ?_
  · obtain ⟨p, r, y, rfl, _⟩ := h; rfl
  · obtain ⟨p, r, y, rfl, hp0, h⟩ := h
    obtain ⟨dx, hp⟩ := id hp0
    refine ⟨_, (pss_one (ps_ret (pe_m G_moved T.cl hr (by decide) (pv 0) (pa_cons (pe_un un_neg (pe_cS G_checked_shift (takes_of rfl rfl rfl rfl) hr (by decide) rfl (pa_cons (pv 1) pa_nil))) pa_nil)))), ?_⟩
    rcases h with ⟨d, rfl, bd, mv, k⟩ | ⟨bad, k⟩
    · exact ⟨_, rfl, p, dx, _, rfl, hp, get_no _ (by decide +kernel) (by decide +kernel), _, rfl, .int d, rfl, .inl ⟨d, rfl, bd, _, rfl, p, r, -d, rfl, hp0, mv, k⟩⟩
    · exact ⟨_, rfl, p, dx, _, rfl, hp, get_no _ (by decide +kernel) (by decide +kernel), _, rfl, y, rfl, .inr ⟨bad, k⟩⟩
abbrev s_Range_str : Stmt := inClass (top 16) 7
theorem sc_Range_str : FnScope ["self"] ["self"] (defScope s_Range_str) := ⟨rfl, rfl, rfl, by decide +kernel, rfl, by decide +kernel, by decide +kernel⟩
theorem ok_str (D : MetK K C "__str__" "Range.__str__" s_Range_str) (T : Txt K mg C) : Met P w K mg base CX0 1 C "__str__" (spStr C) := by
  refine D.met sc_Range_str (fun _ _ _ _ _ _ us hl => match us, hl with | [_], _ => rfl) (fun vs H Q E h => ?_) fun f cdv A outer s H vs Q E hr h => ?_
  · obtain ⟨p, r, rfl, _⟩ := h; rfl
  · obtain ⟨p, r, rfl, ⟨dx, hp⟩, ok, k⟩ := h
    refine ⟨_, (pss_cons (ps_if (pt_cmpR op_gt (pe_fld (pv 0) rfl) (pe_fld (pv 0) rfl) (nomark _)) (pss_one (ps_ret pe_str)) pss_nil)
      (pss_cons (ps_if (pt_cmpR op_eq (pe_fld (pv 0) rfl) (pe_gc rfl T.gBOUND) (nomark _)) (pss_one (ps_ret (pe_joined (PJ.cons (pe_fmt (pe_fld (pv 0) rfl)) (PJ.cons pe_str PJ.nil))))) pss_nil)
      (pss_one (ps_ret (pe_joined (PJ.cons (pe_fmt (pe_fld (pv 0) rfl)) (PJ.cons pe_str (PJ.cons (pe_fmt (pe_fld (pv 0) rfl)) PJ.nil)))))))), ?_⟩
    refine ⟨_, rfl, p, C, dx, _, _, rfl, hp, T.cl, T.nl, get_lo _, _, rfl, p, C, dx, _, _, rfl, hp, T.cl, T.nh, get_hi _, _, _, rfl, rfl, _, rfl, ?_⟩
    unfold strR at k
    by_cases c : r.2 < r.1
    · rw [if_pos c] at k
      exact iteTe (decide_eq_true c) k
    · rw [if_neg c] at k
      have ok2 : Bnd r.1 ∧ r.1 ≤ r.2 ∧ r.2 ≤ B := by
        rcases ok with e | e
        · rw [e] at c; exact absurd (by show -B - 1 < -B; omega) c
        · exact e
      have l1 := big_len (bnd61 ok2.1)
      refine iteFe (decide_eq_false c) ⟨_, rfl, p, C, dx, _, _, rfl, hp, T.cl, T.nh, get_hi _, rfl, _, rfl, ?_⟩
      rw [ne_dec]
      have sp1 : (Str.ofString " -").length = 2 := by decide
      have sp2 : (Str.ofString " ").length = 1 := by decide
      by_cases c2 : r.2 = B
      · rw [if_pos c2] at k
        refine iteTe (decide_eq_true c2) ⟨_, rfl, p, C, dx, _, _, rfl, hp, T.cl, T.nl, get_lo _, .inr ⟨r.1, rfl, big_log (bnd61 ok2.1), _, rfl, ?_, _, rfl, ?_, ?_⟩⟩
        · rw [Str.empty_append, sizeLine_eq]; exact Nat.le_trans l1 (by decide)
        · rw [Str.empty_append, Str.length_append, sp1, sizeLine_eq]
          have : (Str.ofString (toString r.1)).length ≤ 70 := l1
          omega
        · show Q (.str (Str.empty ++ tS r.1 ++ " -")) _
          rw [Str.empty_append]
          exact k
      · rw [if_neg c2] at k
        have b2 : Bnd r.2 := ⟨by have := ok2.1.1; omega, by omega⟩
        have l2 := big_len (bnd61 b2)
        refine iteFe (decide_eq_false c2) ⟨_, rfl, p, C, dx, _, _, rfl, hp, T.cl, T.nl, get_lo _, .inr ⟨r.1, rfl, big_log (bnd61 ok2.1), _, rfl, ?_, _, rfl, ?_, _, rfl, p, C, dx, _, _, rfl, hp, T.cl, T.nh, get_hi _, .inr ⟨r.2, rfl, big_log (bnd61 b2), _, rfl, ?_, ?_⟩⟩⟩
        · rw [Str.empty_append, sizeLine_eq]; exact Nat.le_trans l1 (by decide)
        · rw [Str.empty_append, Str.length_append, sp2, sizeLine_eq]
          have : (Str.ofString (toString r.1)).length ≤ 70 := l1
          omega
        · rw [Str.empty_append, Str.length_append, Str.length_append, sp2, sizeLine_eq]
          have h1 : (Str.ofString (toString r.1)).length ≤ 70 := l1
          have h2 : (Str.ofString (toString r.2)).length ≤ 70 := l2
          omega
        · show Q (.str (Str.empty ++ tS r.1 ++ " " ++ tS r.2)) _
          rw [Str.empty_append]
          exact k
end

end K04

namespace K04
open PySem PySem.Spec PyProof.Rows L2 Jg
local macro_rules | `(tactic| walk_at "rd1") => `(tactic| (first
  | refine ⟨_, rfl, ?_⟩
  | refine ⟨_, _, rfl, rfl, ?_⟩
  | refine ⟨_, _, rfl, ?_⟩
  | refine ⟨rfl, ?_⟩
  | (refine ⟨show (0 : Int) < _ by omega, ?_⟩)
  | (refine ⟨Or.inl ⟨by omega, by omega⟩, ?_⟩)
  | (refine ⟨Or.inr ⟨by omega, by omega⟩, ?_⟩)
  | (refine ⟨(⟨by decide, by decide, by decide⟩ : CPow _ _), ?_⟩)
  | refine Or.inl ⟨_, rfl, ?_⟩
  | refine Or.inr ⟨_, rfl, ?_⟩
  | fail "rd"))
local macro_rules | `(tactic| walk_at "rd") => `(tactic| repeat' walk_at "rd1")


open TL (tl numL)
open NumText (AllDigits digitsVal)
/-! ### numbers as texts -/
def fg : List Nat → List Nat
  | [] => []
  | c :: r => if c = 45 then r else c :: r
def isD (c : Nat) : Bool := decide (48 ≤ c) && decide (c ≤ 57)
/-- written as str writes it, with at most sixty figures -/
def canonB (l : List Nat) : Bool := (fg l).all isD && ((decide (1 ≤ (fg l).length) && decide ((fg l).length ≤ 60)) && (!((fg l).head? == some 48) || l == [48]))
def valL (l : List Nat) : Int := if l.head? = some 45 then -((digitsVal (fg l) : Nat) : Int) else ((digitsVal (fg l) : Nat) : Int)
def AS (z : Str) : Prop := ∀ c ∈ tl z, c < 128
theorem all_isD {l : List Nat} : l.all isD = true ↔ AllDigits l := by
  rw [List.all_eq_true]
  constructor
  · intro h c hc
    have z := Bool.and_eq_true_iff.mp (h c hc)
    exact ⟨of_decide_eq_true z.1, of_decide_eq_true z.2⟩
  · intro h c hc
    exact Bool.and_eq_true_iff.mpr ⟨decide_eq_true (h c hc).1, decide_eq_true (h c hc).2⟩
theorem fg45 (r : List Nat) : fg (45 :: r) = r := by
  show (if (45 : Nat) = 45 then r else 45 :: r) = r
  rw [if_pos rfl]
theorem fg_cases (l : List Nat) : (∃ r, l = 45 :: r ∧ fg l = r) ∨ (l.head? ≠ some 45 ∧ fg l = l) := by
  cases l with
  | nil => exact .inr ⟨(fun z => nomatch z), rfl⟩
  | cons c r =>
    by_cases h : c = 45
    · subst h; exact .inl ⟨r, rfl, fg45 r⟩
    · exact .inr ⟨(fun z => h (Option.some.inj z)), if_neg h⟩
theorem len_tl' (z : Str) : z.length = (tl z).length := by
  show z.cps.size = z.cps.toList.length
  rw [Array.length_toList]
theorem fg_len (l : List Nat) : (fg l).length ≤ l.length := by
  rcases fg_cases l with ⟨r, e, f⟩ | ⟨_, f⟩
  · rw [e, fg45]; simp
  · rw [f]; exact Nat.le_refl _
theorem len_fg (l : List Nat) : l.length ≤ (fg l).length + 1 := by
  rcases fg_cases l with ⟨r, e, f⟩ | ⟨_, f⟩
  · rw [e, fg45]; simp
  · rw [f]; omega
theorem rp_tl (w : Str) : tl (PySem.Txt.removeprefix w (Str.ofString "-")) = fg (tl w) := by
  have ed : (Str.ofString "-").cps.toList = [45] := by decide +kernel
  have el : (Str.ofString "-").length = 1 := by decide +kernel
  rw [StrLaws.removeprefix_eq, StrLaws.subAt_eq, el, ed]
  have lw := len_tl' w
  show tl (if (decide (0 + 1 ≤ w.length) && (((tl w).drop 0).take 1 == [45])) = true then _ else w) = _
  cases e : tl w with
  | nil =>
    rw [e] at lw
    have z : w.length = 0 := lw
    rw [if_neg (by rw [z]; simp), e]; rfl
  | cons c r =>
    rw [e] at lw
    by_cases h : c = 45
    · subst h
      have z : w.length = r.length + 1 := lw
      rw [if_pos (by rw [z]; simp)]
      show ((tl w).drop 1).take (w.length - 1) = _
      rw [e, z]
      show r.take (r.length + 1 - 1) = fg (45 :: r)
      rw [fg45]
      simp
    · rw [if_neg (by simp [h]), e]
      exact (if_neg h).symm
theorem val_snoc (l : List Nat) (c : Nat) : digitsVal (l ++ [c]) = digitsVal l * 10 + (c - 48) := by
  unfold digitsVal
  rw [List.foldl_append]; rfl
theorem numL_zero : numL 0 = [48] := TL.numL_lt (by decide)
theorem numL_back : ∀ (n : Nat) (ds : List Nat), ds.length = n + 1 → AllDigits ds → (ds.head? = some 48 → ds.length = 1) → numL (digitsVal ds) = ds := by
  intro n
  induction n with
  | zero =>
    intro ds hl hd _
    match ds, hl with
    | [c], _ =>
      have h := hd c (by simp)
      have e : digitsVal [c] = c - 48 := by
        have z := val_snoc [] c
        rw [List.nil_append] at z
        rw [z]
        show 0 * 10 + (c - 48) = c - 48
        omega
      rw [e, TL.numL_lt (by omega)]
      congr 1; omega
  | succ n ih =>
    intro ds hl hd hh
    have ne : ds ≠ [] := fun z => by rw [z] at hl; cases hl
    obtain ⟨i, c, rfl⟩ : ∃ i c, ds = i ++ [c] := ⟨ds.dropLast, ds.getLast ne, (List.dropLast_concat_getLast ne).symm⟩
    have li : i.length = n + 1 := by rw [List.length_append] at hl; simpa using hl
    have hc := hd c (by simp)
    have di : AllDigits i := fun d h => hd d (List.mem_append_left _ h)
    have hd0 : i.head? ≠ some 48 := fun z => by
      have z2 : (i ++ [c]).head? = some 48 := by
        cases i with
        | nil => cases li
        | cons a b => exact z
      have := hh z2
      rw [hl] at this; omega
    have r1 := ih i li di fun z => absurd z hd0
    have pos : 1 ≤ digitsVal i := by
      rcases Nat.eq_zero_or_pos (digitsVal i) with z | z
      · rw [z, numL_zero] at r1
        rw [← r1] at hd0
        exact absurd rfl hd0
      · exact z
    rw [val_snoc, TL.numL_step (by omega)]
    have e1 : (digitsVal i * 10 + (c - 48)) / 10 = digitsVal i := by omega
    have e2 : 48 + (digitsVal i * 10 + (c - 48)) % 10 = c := by omega
    rw [e1, e2, r1]
theorem numL_head : ∀ n, (numL n).head? = some 48 → numL n = [48] := by
  intro n
  induction n using Nat.strongRecOn with
  | _ n ih =>
    intro h
    by_cases c : n < 10
    · rw [TL.numL_lt c] at h ⊢
      have z : 48 + n = 48 := Option.some.inj h
      rw [z]
    · rw [TL.numL_step (by omega)] at h
      have ne := TL.numL_ne (n / 10)
      have h2 : (numL (n / 10)).head? = some 48 := by
        cases e : numL (n / 10) with
        | nil => exact absurd e ne
        | cons a b => rw [e] at h; exact h
      have z := ih (n / 10) (by omega) h2
      have z2 := TL.numL_inj (z.trans numL_zero.symm)
      omega
theorem tl_neg (n : Nat) (h : 0 < n) : tl (Str.ofString (toString (-((n : Nat) : Int)))) = 45 :: numL n := by
  obtain ⟨m, rfl⟩ : ∃ m, n = m + 1 := ⟨n - 1, by omega⟩
  rw [show (-((m + 1 : Nat) : Int)) = Int.negSucc m from rfl, TL.tl_ofString]
  have e : toString (Int.negSucc m) = "-" ++ toString (((m + 1 : Nat) : Int)) := rfl
  rw [e, String.toList_append, List.map_append, ← TL.tl_ofString (toString (((m + 1 : Nat) : Int))), TL.tl_num]
  rfl
/-- str(int(w)) == w -/
theorem back_iff {w : Str} (hd : AllDigits (fg (tl w))) (h1 : 1 ≤ (fg (tl w)).length) : Str.ofString (toString (valL (tl w))) = w ↔ (!((fg (tl w)).head? == some 48) || tl w == [48]) = true := by
  have key : Str.ofString (toString (valL (tl w))) = w ↔ tl (Str.ofString (toString (valL (tl w)))) = tl w := ⟨fun z => by rw [z], fun z => TL.ext_tl z⟩
  rw [key]
  rcases fg_cases (tl w) with ⟨r, e, f⟩ | ⟨e, f⟩
  · have ev : valL (tl w) = -((digitsVal r : Nat) : Int) := by
      unfold valL
      rw [if_pos (by rw [e]; rfl), f]
    rw [f] at hd h1
    rw [ev, e, fg45]
    have n48 : ((45 :: r : List Nat) == [48]) = false := by simp
    rw [n48, Bool.or_false]
    obtain ⟨n, hn⟩ : ∃ n, r.length = n + 1 := ⟨r.length - 1, by omega⟩
    rcases Nat.eq_zero_or_pos (digitsVal r) with z | z
    · rw [z]
      have e0 : tl (Str.ofString (toString (-((0 : Nat) : Int)))) = [48] := by
        rw [show (-((0 : Nat) : Int)) = ((0 : Nat) : Int) from rfl, TL.tl_num, numL_zero]
      rw [e0]
      constructor
      · intro q; cases q
      · intro q
        rw [Bool.not_eq_true', beq_eq_false_iff_ne] at q
        have b := numL_back n r hn hd fun k => absurd k q
        rw [z, numL_zero] at b
        rw [← b] at q
        exact absurd rfl q
    · rw [tl_neg _ z]
      constructor
      · intro q
        have q2 : numL (digitsVal r) = r := (List.cons.inj q).2
        rw [Bool.not_eq_true', beq_eq_false_iff_ne]
        intro k
        have k2 := numL_head (digitsVal r) (by rw [q2]; exact k)
        have k3 := TL.numL_inj (k2.trans numL_zero.symm)
        omega
      · intro q
        rw [Bool.not_eq_true', beq_eq_false_iff_ne] at q
        rw [numL_back n r hn hd fun k => absurd k q]
  · have ev : valL (tl w) = ((digitsVal (tl w) : Nat) : Int) := by
      unfold valL
      rw [if_neg e, f]
    rw [f] at hd h1
    rw [ev, TL.tl_num, f]
    obtain ⟨n, hn⟩ : ∃ n, (tl w).length = n + 1 := ⟨(tl w).length - 1, by omega⟩
    constructor
    · intro q
      by_cases k : (tl w).head? = some 48
      · have k2 := numL_head (digitsVal (tl w)) (by rw [q]; exact k)
        rw [q] at k2
        rw [k2]; rfl
      · rw [Bool.or_eq_true]
        left
        rw [Bool.not_eq_true', beq_eq_false_iff_ne]
        exact k
    · intro q
      refine numL_back n _ hn hd fun k => ?_
      rw [Bool.or_eq_true] at q
      rcases q with q | q
      · rw [Bool.not_eq_true', beq_eq_false_iff_ne] at q
        exact absurd k q
      · rw [beq_iff_eq.mp q]; rfl
theorem int_val {w : Str} (hd : AllDigits (fg (tl w))) (h1 : 1 ≤ (fg (tl w)).length) (h2 : w.length ≤ 4300) : intText? w = some (valL (tl w)) := by
  have ne : fg (tl w) ≠ [] := fun z => by rw [z] at h1; cases h1
  rcases fg_cases (tl w) with ⟨r, e, f⟩ | ⟨e, f⟩
  · rw [intText_neg (cs := r) e (f ▸ hd) (f ▸ ne) h2]
    unfold valL
    rw [if_pos (by rw [e]; rfl), f]
  · have z := intText_digits (x := w) (show AllDigits (tl w) from f ▸ hd) (show tl w ≠ [] from f ▸ ne) h2
    rw [z]
    unfold valL
    rw [if_neg e, f]
theorem dig_of : ∀ c : Nat, c < 128 → Unicode.isDigit c = isD c := by
  have h : ∀ c ∈ List.range 128, Unicode.isDigit c = isD c := by decide +kernel
  exact fun c hc => h c (List.mem_range.mpr hc)
theorem fg_mem {l : List Nat} {c : Nat} (h : c ∈ fg l) : c ∈ l := by
  rcases fg_cases l with ⟨r, e, f⟩ | ⟨_, f⟩
  · rw [e]; rw [f] at h; exact List.mem_cons_of_mem _ h
  · rw [f] at h; exact h
theorem asc_of {z : Str} (h : AS z) : PySem.Txt.isascii z = true := by
  unfold PySem.Txt.isascii
  rw [← Array.all_toList, List.all_eq_true]
  exact fun c hc => decide_eq_true (h c hc)
theorem dig_all {z : Str} (h : AS z) : PySem.Txt.isdigit z = (decide (1 ≤ (tl z).length) && (tl z).all isD) := by
  unfold PySem.Txt.isdigit
  have e : z.cps.all Unicode.isDigit = (tl z).all isD := by
    rw [← Array.all_toList]
    show (tl z).all Unicode.isDigit = _
    rw [Bool.eq_iff_iff, List.all_eq_true, List.all_eq_true]
    exact ⟨fun k c hc => (dig_of c (h c hc)) ▸ k c hc, fun k c hc => (dig_of c (h c hc)).symm ▸ k c hc⟩
  rw [e]
  congr 1
theorem fold_lt : ∀ (l : List Nat) (a : Nat), AllDigits l → l.foldl (fun acc c => acc * 10 + (c - 48)) a < (a + 1) * 10 ^ l.length
  | [], a, _ => by show a < (a + 1) * 1; omega
  | c :: r, a, h => by
    have ih := fold_lt r (a * 10 + (c - 48)) h.tail
    have hc := h.head
    rw [List.foldl_cons, List.length_cons]
    have e : (a + 1) * 10 ^ (r.length + 1) = (a * 10 + 10) * 10 ^ r.length := by
      rw [Nat.pow_succ, ← Nat.mul_assoc, Nat.mul_right_comm]
      congr 1; omega
    rw [e]
    exact Nat.lt_of_lt_of_le ih (Nat.mul_le_mul_right _ (by omega))
theorem val_lt {l : List Nat} (h : AllDigits l) (h2 : l.length ≤ 60) : digitsVal l < 10 ^ 60 := by
  have z := fold_lt l 0 h
  have z2 : digitsVal l < (0 + 1) * 10 ^ l.length := z
  rw [Nat.zero_add, Nat.one_mul] at z2
  exact Nat.lt_of_lt_of_le z2 (Nat.pow_le_pow_right (by decide) h2)
theorem valL_bnd {l : List Nat} (h : AllDigits (fg l)) (h2 : (fg l).length ≤ 60) : Bnd (valL l) := by
  have z := val_lt h h2
  have hB := B_eq
  have e : (10 : Nat) ^ 60 = 1000000000000000000000000000000000000000000000000000000000000 := by decide +kernel
  rw [e] at z
  unfold valL
  split
  · exact ⟨by omega, by omega⟩
  · exact ⟨by omega, by omega⟩
theorem canon_of {l : List Nat} (h : canonB l = true) : AllDigits (fg l) ∧ 1 ≤ (fg l).length ∧ (fg l).length ≤ 60 := by
  unfold canonB at h
  obtain ⟨h1, h2⟩ := Bool.and_eq_true_iff.mp h
  obtain ⟨h3, _⟩ := Bool.and_eq_true_iff.mp h2
  obtain ⟨h4, h5⟩ := Bool.and_eq_true_iff.mp h3
  exact ⟨all_isD.mp h1, of_decide_eq_true h4, of_decide_eq_true h5⟩
def spWrit : Sp := fun vs H Q _ => ∃ z, vs = [.str z] ∧ z.length ≤ 10000 ∧ AS z ∧ Q (.bl (canonB (tl z))) H
section
variable {P : Program} {w : World} {K : PySem.W.Frag} {mg : Str → Option Value} {base : Heap} {C : Addr}
abbrev s_is_written_integer : Stmt := top 10
theorem sc_is_written_integer : FnScope ["word", "digits"] ["word"] (defScope s_is_written_integer) := ⟨rfl, rfl, rfl, by decide +kernel, rfl, by decide +kernel, by decide +kernel⟩
theorem ok_written (D : DefK K mg "is_written_integer" s_is_written_integer) (T : Txt K mg C) : Cal P w K mg base CX0 1 "is_written_integer" spWrit := by
  refine D.cal sc_is_written_integer (fun _ _ _ _ _ _ us hl => match us, hl with | [_], _ => rfl) (fun vs H Q E h => ?_) fun f cdv A outer s H vs Q E hr h => ?_
  · obtain ⟨z, rfl, _⟩ := h; rfl
  · obtain ⟨z, rfl, hz, as, k⟩ := h
    refine ⟨_, (pss_cons (ps_set (i := 1) sc_is_written_integer.nd rfl (Or.inl rfl) (pe_m1 F.slot_str_removeprefix F.type_str_removeprefix mt_removeprefix (pv 0) pe_str))
      (pss_cons (ps_if (PW.pt (pw_or (pt_not (pt_val (pe_m0 F.slot_str_isascii F.type_str_isascii mt_isascii (pv 1)))) (pw_or (pt_not (pt_val (pe_m0 F.slot_str_isdigit F.type_str_isdigit mt_isdigit (pv 1)))) (pw_or1 (pt_cmpR op_gt (pe_callB call_len_str (by rfl) T.b_len (by decide +kernel) (pa_cons (pv 1) pa_nil)) pe_int (nomark _)))))) (pss_one (ps_ret pe_bl)) pss_nil)
      (pss_one (ps_ret (pe_cmpR op_eq (pe_callTy call_str_int (by rfl) T.b_str (by decide +kernel) (pa_cons (pe_callTy call_int_str (by rfl) T.b_int (by decide +kernel) (pa_cons (pv 0) pa_nil)) pa_nil)) (pv 0) (nomark _)))))), ?_⟩
    have zs : z.length ≤ sizeLine := by rw [sizeLine_eq]; omega
    refine ⟨_, rfl, ⟨_, rfl⟩, z, _, rfl, rfl, zs, ?_⟩
    have ef := rp_tl z
    have lf : (PySem.Txt.removeprefix z (Str.ofString "-")).length = (fg (tl z)).length := by rw [len_tl', ef]
    have af : AS (PySem.Txt.removeprefix z (Str.ofString "-")) := fun c hc => as c (fg_mem (by rw [← ef]; exact hc))
    have lz := len_tl' z
    have l1 := fg_len (tl z)
    have l2 := len_fg (tl z)
    refine ⟨_, rfl, ⟨_, rfl⟩, _, rfl, rfl, trivial, _, rfl, ?_⟩
    rw [asc_of af]
    refine iteF ⟨_, rfl, ⟨_, rfl⟩, _, rfl, rfl, trivial, _, rfl, ?_⟩
    rw [dig_all af, ef]
    unfold canonB at k
    by_cases c1 : 1 ≤ (fg (tl z)).length
    · rw [decide_eq_true c1]
      rw [decide_eq_true c1] at k
      cases c2 : (fg (tl z)).all isD with
      | false =>
        rw [c2] at k
        exact iteT k
      | true =>
        rw [c2] at k
        refine iteF ⟨_, rfl, _, rfl, by rw [lf, sizeLine_eq]; omega, _, _, rfl, rfl, _, rfl, ?_⟩
        rw [lf]
        by_cases c3 : (fg (tl z)).length ≤ 60
        · rw [decide_eq_true c3] at k
          refine iteFe (decide_eq_false (by omega)) ?_
          have hd := all_isD.mp c2
          have big : (valL (tl z)).natAbs.log2 < 1920 := big_log (bnd61 (valL_bnd hd c3))
          refine ⟨_, rfl, z, _, rfl, int_val hd c1 (by omega), by omega, _, rfl, big, _, rfl, rfl, ?_⟩
          have bi := back_iff hd c1
          have e : decide (V.str (Str.ofString (toString (valL (tl z)))) = V.str z) = (!((fg (tl z)).head? == some 48) || tl z == [48]) := by
            rw [Bool.eq_iff_iff, decide_eq_true_iff, ← bi]
            exact ⟨fun q => V.str.inj q, fun q => by rw [q]⟩
          show Q (.bl (decide (V.str (Str.ofString (toString (valL (tl z)))) = V.str z))) H
          rw [e]
          exact k
        · rw [decide_eq_false c3] at k
          exact iteTe (decide_eq_true (by omega)) k
    · rw [decide_eq_false c1]
      have e0 : (fg (tl z)).all isD = true := by
        have : fg (tl z) = [] := by
          cases e : fg (tl z) with
          | nil => rfl
          | cons a b => rw [e] at c1; exact absurd (by simp) c1
        rw [this]; rfl
      rw [decide_eq_false c1, e0] at k
      exact iteT k
end

end K04

namespace K04
open PySem PySem.Spec PyProof.Rows L2 Jg
local macro_rules | `(tactic| walk_at "rd1") => `(tactic| (first
  | refine ⟨_, rfl, ?_⟩
  | refine ⟨_, _, rfl, rfl, ?_⟩
  | refine ⟨_, _, rfl, ?_⟩
  | refine ⟨rfl, ?_⟩
  | (refine ⟨show (0 : Int) < _ by omega, ?_⟩)
  | (refine ⟨Or.inl ⟨by omega, by omega⟩, ?_⟩)
  | (refine ⟨Or.inr ⟨by omega, by omega⟩, ?_⟩)
  | (refine ⟨(⟨by decide, by decide, by decide⟩ : CPow _ _), ?_⟩)
  | refine Or.inl ⟨_, rfl, ?_⟩
  | refine Or.inr ⟨_, rfl, ?_⟩
  | fail "rd"))
local macro_rules | `(tactic| walk_at "rd") => `(tactic| repeat' walk_at "rd1")


open TL (tl numL)
open NumText (AllDigits digitsVal)
/-- a comprehension over the signs of a text -/
theorem lc_str {x : Str} {g : TG} {tt : TT} {te : TE} {vs : List Nat} {σ : L2.St} {H1 : Hp} {D : Addr} {Qd : Hp → Prop} (Pv : Nat → Hp → Prop) (h0 : Pv 0 (upd H1 D (.lst [])))
    (hs : ∀ i c H, x.cps[i]? = some c → Pv i H → g (.str ⟨#[c]⟩) (wipe σ vs) H fun σ2 H2 => wipe σ2 vs = wipe σ vs ∧ tt σ2 H2 fun b H3 =>
      if b = true then te σ2 H3 fun y H4 => ∃ acc, H4 D = some (.lst acc) ∧ acc.length < sizeLine ∧ Pv (i + 1) (upd H4 D (.lst (acc ++ [y]))) else Pv (i + 1) H3) (hd : ∀ H, Pv x.cps.size H → Qd H) : LcAsk (Its x) g tt te vs σ H1 D Qd := by
  refine ⟨fun i m H => m = x.cps.size - i ∧ i ≤ x.cps.size ∧ Pv i H, ⟨_, rfl, Nat.zero_le _, h0⟩, ?_⟩
  rintro i m H ⟨rfl, hi, p⟩
  rcases Nat.lt_or_ge i x.cps.size with lt | ge
  · refine .inr ⟨lt, Pv (i + 1), (fun H' p' => ⟨_, by omega, rfl, lt, p'⟩), fun v H' ⟨e1, c, e2, e3⟩ => ?_⟩
    subst e1 e3
    exact hs i c _ e2 p
  · have e : i = x.cps.size := by omega
    subst e
    exact .inl ⟨Nat.le_refl _, hd H p⟩
theorem cut_head (z : Str) : cutS z none (some 1) = Str.ofString "-" ↔ (tl z).head? = some 45 := by
  have e : tl (cutS z none (some 1)) = (tl z).take 1 := by
    show ((tl z).drop (HT.sIx z.length 0 none)).take (HT.sIx z.length z.length (some ((1 : Nat) : Int)) - HT.sIx z.length 0 none) = _
    rw [HT.sIx_nat, HT.sIx_none, List.drop_zero, Nat.sub_zero, len_tl']
    cases tl z with
    | nil => rfl
    | cons c r => rw [Nat.min_eq_left (by simp)]
  have d : tl (Str.ofString "-") = [45] := by decide +kernel
  constructor
  · intro h
    have h2 := congrArg tl h
    rw [e, d] at h2
    cases k : tl z with
    | nil => rw [k] at h2; cases h2
    | cons c r => rw [k] at h2; exact congrArg some (List.cons.inj h2).1
  · intro h
    refine TL.ext_tl ?_
    show tl (cutS z none (some 1)) = tl (Str.ofString "-")
    rw [e, d]
    cases k : tl z with
    | nil => rw [k] at h; cases h
    | cons c r =>
      rw [k] at h
      have z : c = 45 := Option.some.inj h
      rw [z]; rfl
theorem cut_tail (z : Str) : tl (cutS z (some 1) none) = (tl z).drop 1 := by
  show ((tl z).drop (HT.sIx z.length 0 (some ((1 : Nat) : Int)))).take (HT.sIx z.length z.length none - HT.sIx z.length 0 (some ((1 : Nat) : Int))) = _
  rw [HT.sIx_nat, HT.sIx_none, len_tl']
  cases tl z with
  | nil => rfl
  | cons c r =>
    rw [Nat.min_eq_left (by simp)]
    show (r.take ((c :: r).length - 1)) = r
    simp
theorem fg_drop {l : List Nat} (h : l.head? = some 45) : fg l = l.drop 1 := by
  cases l with
  | nil => cases h
  | cons c r =>
    have z : c = 45 := Option.some.inj h
    rw [z, fg45]; rfl
def digs : Str := "0123456789"
theorem digs_iff {c : Nat} : decide (c ∈ digs.cps.toList) = isD c := by
  have e : digs.cps.toList = [48, 49, 50, 51, 52, 53, 54, 55, 56, 57] := by decide +kernel
  rw [e]
  unfold isD
  rw [Bool.eq_iff_iff, decide_eq_true_iff, Bool.and_eq_true, decide_eq_true_iff, decide_eq_true_iff]
  simp only [List.mem_cons, List.not_mem_nil, or_false]
  omega
def one (c : Nat) : Str := ⟨#[c]⟩
theorem dp_ones {K : PySem.W.Frag} {H : Hp} : ∀ cs : List Nat, DpAll K H (cs.map fun c => V.str (one c)) (cs.map fun c => PyData.str (one c))
  | [] => .nil
  | c :: cs => .cons (.str _) (dp_ones cs)
theorem shp_ones {cs : List Nat} (h : ∀ c ∈ cs, c < 128) : SeqAt.shaped (.list (cs.map fun c => PyData.str (one c))) = true := by
  have e1 : PyData.canLayAll0 (cs.map fun c => PyData.str (one c)) = true := by
    induction cs with
    | nil => simp [PyData.canLayAll0]
    | cons c r ih =>
      have hc := h c List.mem_cons_self
      have o : PyData.strOk (one c) = true := by
        unfold PyData.strOk
        rw [← Array.all_toList, List.all_eq_true]
        intro d hd
        have e : d = c := by simpa [one] using hd
        rw [e]
        exact decide_eq_true (by omega)
      simp [PyData.canLayAll0, PyData.canLay0, o, ih fun d hd => h d (List.mem_cons_of_mem _ hd)]
  have e2 : ∀ l : List Nat, PyData.depthAll (l.map fun c => PyData.str (one c)) = 0 := by
    intro l
    induction l with
    | nil => simp [PyData.depthAll]
    | cons c r ih => simp [PyData.depthAll, PyData.depth, ih]
  refine Bool.and_eq_true_iff.mpr ⟨?_, decide_eq_true ?_⟩
  · simp [PyData.canLay0, e1]
  · have z := e2 cs
    show PyData.depthAll (cs.map fun c => PyData.str (one c)) + 1 ≤ 64
    rw [z]; decide
theorem shp_nil : SeqAt.shaped (.list []) = true := by decide +kernel
theorem eqv_nil (cs : List Nat) : PyData.eqv (.list (cs.map fun c => PyData.str (one c))) (.list []) = cs.isEmpty := by
  cases cs with
  | nil => simp [PyData.eqv, PyData.eqvAll]
  | cons c r => simp [PyData.eqv, PyData.eqvAll]
def numV (z : Str) : V := if canonB (tl z) = true then .int (valL (tl z)) else .non
def spNum : Sp := fun vs H Q _ => ∃ z, vs = [.str z] ∧ z.length ≤ 10000 ∧ AS z ∧ ∀ H', Same H H' → Q (numV z) H'
section
variable {P : Program} {w : World} {K : PySem.W.Frag} {mg : Str → Option Value} {base : Heap} {C : Addr}
abbrev s_law_number : Stmt := top 26
theorem sc_law_number : FnScope ["word", "figures", "sign"] ["word"] (defScope s_law_number) := ⟨rfl, rfl, rfl, by decide +kernel, rfl, by decide +kernel, by decide +kernel⟩
theorem ok_num (D : DefK K mg "_law_number" s_law_number) (T : Txt K mg C) : Cal P w K mg base CX0 1 "_law_number" spNum := by
  refine D.cal sc_law_number (fun _ _ _ _ _ _ us hl => match us, hl with | [_], _ => rfl) (fun vs H Q E h => ?_) fun f cdv A outer s H vs Q E hr h => ?_
  · obtain ⟨z, rfl, _⟩ := h; rfl
  · obtain ⟨z, rfl, hz, as, k⟩ := h
    refine ⟨_, (C8.pss_cut (ps_set (i := 1) sc_law_number.nd rfl (Or.inl rfl) (pe_ifExp (pt_cmpR op_eq (pe_slice sl_str (pv 0) po_none (po_some pe_int)) pe_str (nomark _)) (pe_slice sl_str (pv 0) (po_some pe_int) po_none) (pv 0)))
      (pss_cons (ps_if (PW.pt (pw_or (pt_not (pt_chain op_le op_le pe_int (pe_callB call_len_str (by rfl) T.b_len (by decide +kernel) (pa_cons (pv 1) pa_nil)) pe_int)) (pw_or1 (pt_cmpR (op_neD hr.units) (pe_lc (own := [("sign", 2)]) (g := gName 2) (by rfl) sc_law_number.nd (pi_str (pv 1)) (blkOk_by (own := [("sign", 2)]) (N := ["word", "figures", "sign"]) (sc := defScope s_law_number) (by decide +kernel)) (fun _ _ _ _ _ => pg_name (i := 2) sc_law_number.nd rfl (Or.inl rfl)) (fun _ _ _ _ _ => (pts_one (pt_cmpR op_notInS (pv 2) pe_str rfl))) (fun _ _ _ _ _ => (pv 2))) (pe_lst pa_nil) (nomark _))))) (pss_one (ps_ret pe_non)) pss_nil)
      (pss_one (ps_ret (pe_ifExp (PW.pt (pw_and (pt_cmpR op_eq (pe_ix (r := rIxS) ix_str (pv 1) pe_int (fun _ _ => rfl)) pe_str (nomark _)) (pw_and1 (pt_cmpR op_ne (pv 0) pe_str (nomark _))))) pe_non (pe_callTy call_int_str (by rfl) T.b_int (by decide +kernel) (pa_cons (pv 0) pa_nil))))))), ?_⟩
    have zs : z.length ≤ sizeLine := by rw [sizeLine_eq]; omega
    have lz := len_tl' z
    refine ⟨fun sg H' => ∃ f : Str, sg = [some (.str z), some (.str f), none] ∧ tl f = fg (tl z) ∧ H' = H, ?_, ?_⟩
    · refine ⟨_, rfl, 1, rfl, z, rfl, zs, rfl, _, rfl, ?_⟩
      by_cases c : (tl z).head? = some 45
      · have e : cutS z none (some 1) = Str.ofString "-" := (cut_head z).mpr c
        refine iteTe (decide_eq_true (by rw [e])) ⟨_, rfl, 1, rfl, z, rfl, zs, _, rfl, ?_, rfl⟩
        rw [cut_tail, fg_drop c]
      · refine iteFe (decide_eq_false fun q => c ((cut_head z).mp (V.str.inj q))) ⟨_, rfl, z, rfl, ?_, rfl⟩
        rcases fg_cases (tl z) with ⟨r, e, _⟩ | ⟨_, e⟩
        · rw [e] at c; exact absurd rfl c
        · exact e.symm
    · rintro sg H0 ⟨f, rfl, hf, rfl⟩
      have lf := len_tl' f
      rw [hf] at lf
      have l1 := fg_len (tl z)
      have l2 := len_fg (tl z)
      have fs : f.length ≤ sizeLine := by rw [sizeLine_eq]; omega
      have af : ∀ c ∈ tl f, c < 128 := fun c hc => as c (fg_mem (by rw [← hf]; exact hc))
      have nonQ : ∀ H', Same H0 H' → canonB (tl z) = false → Q .non H' := fun H' sm h => by
        have q := k H' sm
        unfold numV at q
        rw [h] at q
        exact q
      refine ⟨_, rfl, f, rfl, fs, _, _, rfl, rfl, _, rfl, ?_⟩
      rw [lf]
      by_cases c1 : 1 ≤ (fg (tl z)).length
      · refine iteTe (decide_eq_true (by omega)) ⟨_, _, rfl, rfl, _, rfl, ?_⟩
        by_cases c3 : (fg (tl z)).length ≤ 60
        · rw [decide_eq_true (show ((fg (tl z)).length : Int) ≤ 60 by omega)]
          refine iteF ⟨_, rfl, f, rfl, fun D nD => lc_str (fun i H' => H' = upd H0 D (.lst ((((fg (tl z)).take i).filter fun c => !isD c).map fun c => V.str (one c)))) rfl (fun i c H' hi e => ?_) fun H' e => ?_⟩
          · subst e
            have hi2 : (fg (tl z))[i]? = some c := by
              rw [← hf]
              show f.cps.toList[i]? = some c
              rw [Array.getElem?_toList]; exact hi
            have tk : (fg (tl z)).take (i + 1) = (fg (tl z)).take i ++ [c] := by rw [List.take_succ, hi2]; rfl
            have dg : decide (c ∈ (Str.ofString "0123456789").cps.toList) = isD c := digs_iff
            refine ⟨rfl, _, rfl, c, _, rfl, rfl, _, rfl, ?_⟩
            rw [dg, tk, List.filter_append]
            have tl60 : ((fg (tl z)).take i).length ≤ 60 := Nat.le_trans (List.length_take_le' ..) c3
            cases e : isD c with
            | true =>
              refine iteF ?_
              have z2 : ([c].filter fun c => !isD c) = [] := by simp [e]
              rw [z2, List.append_nil]
            | false =>
              refine iteT ⟨_, rfl, _, upd_same, ?_, ?_⟩
              · rw [List.length_map, sizeLine_eq]
                have := List.length_filter_le (fun c => !isD c) ((fg (tl z)).take i)
                omega
              · have z2 : ([c].filter fun c => !isD c) = [c] := by simp [e]
                rw [z2, List.map_append, upd_upd]; rfl
          · subst e
            have szf : f.cps.size = (fg (tl z)).length := lf
            rw [szf, List.take_length]
            refine ⟨by show (0 : Nat) ≤ sizeLine; omega, fun E2 nE => ?_⟩
            have nED : E2 ≠ D := fun q => by rw [q, upd_same] at nE; cases nE
            have sm1 : Same H0 (upd H0 D (.lst (((fg (tl z)).filter fun c => !isD c).map fun c => V.str (one c)))) := same_new nD
            have sm2 := same_new' (o := .lst []) sm1 nE
            have c127 : ∀ c ∈ ((fg (tl z)).filter fun c => !isD c), c < 128 := fun c hc => af c (by rw [hf]; exact (List.mem_filter.mp hc).1)
            refine ⟨_, _, .lst (SqL.of (by rw [upd_ne nED.symm, upd_same])) (dp_ones _), .lst (SqL.of upd_same) .nil, shp_ones c127, shp_nil, _, rfl, ?_⟩
            rw [eqv_nil]
            have fe : ((fg (tl z)).filter fun c => !isD c).isEmpty = (fg (tl z)).all isD := by
              rw [Bool.eq_iff_iff, List.isEmpty_iff, List.filter_eq_nil_iff, List.all_eq_true]
              exact ⟨fun q c hc => by have := q c hc; simpa using this, fun q c hc => by rw [q c hc]; decide⟩
            rw [fe]
            cases c2 : (fg (tl z)).all isD with
            | false =>
              refine iteT (nonQ _ sm2 ?_)
              unfold canonB
              rw [c2]; rfl
            | true =>
              refine iteF ?_
              have hd := all_isD.mp c2
              have big : (valL (tl z)).natAbs.log2 < 1920 := big_log (bnd61 (valL_bnd hd c3))
              obtain ⟨c, r, ec⟩ : ∃ c r, fg (tl z) = c :: r := by
                cases e : fg (tl z) with
                | nil => rw [e] at c1; exact absurd c1 (by show ¬ 1 ≤ 0; omega)
                | cons c r => exact ⟨c, r, rfl⟩
              have a0 : atI f.cps.toList 0 = some c := by
                show atI (tl f) 0 = some c
                rw [hf, ec]; exact atI_nat (j := 0) rfl
              have q := k _ sm2
              unfold numV canonB at q
              rw [c2, decide_eq_true c1, decide_eq_true c3, Bool.true_and, Bool.true_and, Bool.true_and] at q
              have eh : ((fg (tl z)).head? == some 48) = decide (c = 48) := by
                rw [ec]
                show (some c == some 48) = _
                rw [Bool.eq_iff_iff, beq_iff_eq, decide_eq_true_iff]
                exact ⟨fun q => Option.some.inj q, fun q => by rw [q]⟩
              rw [eh] at q
              have e1 : decide (V.str ⟨#[c]⟩ = V.str (Str.ofString "0")) = decide (c = 48) := by
                rw [Bool.eq_iff_iff, decide_eq_true_iff, decide_eq_true_iff]
                have d : tl (Str.ofString "0") = [48] := by decide +kernel
                constructor
                · intro h
                  have h2 := congrArg tl (V.str.inj h)
                  rw [d] at h2
                  exact (List.cons.inj (show [c] = [48] from h2)).1
                · intro h
                  exact congrArg V.str (TL.ext_tl (by rw [d, h]))
              have e2 : decide (V.str z = V.str (Str.ofString "0")) = (tl z == [48]) := by
                have d : tl (Str.ofString "0") = [48] := by decide +kernel
                rw [Bool.eq_iff_iff, decide_eq_true_iff, beq_iff_eq]
                exact ⟨fun h => by rw [V.str.inj h, d], fun h => congrArg V.str (TL.ext_tl (by rw [d, h]))⟩
              have fin : ∀ H', Q (.int (valL (tl z))) H' → tCB (fun xs H Q => ∃ a n, xs = [V.str a] ∧ intText? a = some n ∧ a.length ≤ 640 ∧ Q (V.int n) H) (tCons (tVar 0) tNil) [some (V.str z), some (V.str f), none] H' Q :=
                fun H' h => ⟨_, rfl, z, _, rfl, int_val hd c1 (by omega), by omega, h⟩
              refine ⟨_, rfl, _, 0, c, rfl, rfl, fs, a0, rfl, _, rfl, ?_⟩
              rw [e1]
              by_cases c4 : c = 48
              · rw [decide_eq_true c4] at q ⊢
                refine iteT ⟨_, rfl, rfl, _, rfl, ?_⟩
                rw [e2]
                cases c5 : tl z == [48] with
                | true =>
                  rw [c5] at q
                  exact iteF (fin _ q)
                | false =>
                  rw [c5] at q
                  exact iteT q
              · rw [decide_eq_false c4] at q ⊢
                exact iteF (fin _ q)
        · rw [decide_eq_false (show ¬ ((fg (tl z)).length : Int) ≤ 60 by omega)]
          refine iteT (nonQ _ (Same.refl _) ?_)
          unfold canonB
          rw [decide_eq_false c3, Bool.and_false, Bool.false_and, Bool.and_false]
      · refine iteFe (decide_eq_false (by omega)) ⟨_, rfl, ?_⟩
        refine iteT (nonQ _ (Same.refl _) ?_)
        unfold canonB
        rw [decide_eq_false c1, Bool.false_and, Bool.false_and, Bool.and_false]
end

end K04

namespace K04
open PySem PySem.Spec PyProof.Rows L2 Jg
local macro_rules | `(tactic| walk_at "rd1") => `(tactic| (first
  | refine ⟨_, rfl, ?_⟩
  | refine ⟨_, _, rfl, rfl, ?_⟩
  | refine ⟨_, _, rfl, ?_⟩
  | refine ⟨rfl, ?_⟩
  | (refine ⟨show (0 : Int) < _ by omega, ?_⟩)
  | (refine ⟨Or.inl ⟨by omega, by omega⟩, ?_⟩)
  | (refine ⟨Or.inr ⟨by omega, by omega⟩, ?_⟩)
  | (refine ⟨(⟨by decide, by decide, by decide⟩ : CPow _ _), ?_⟩)
  | refine Or.inl ⟨_, rfl, ?_⟩
  | refine Or.inr ⟨_, rfl, ?_⟩
  | fail "rd"))
local macro_rules | `(tactic| walk_at "rd") => `(tactic| repeat' walk_at "rd1")


open TL (tl numL)
open NumText (AllDigits digitsVal)
def wordsOf (z : Str) : List Str := PySem.Txt.split z " "
def readL : List Str → Option (Int × Int)
  | [a, b] => if canonB (tl a) = true then (if b = "-" then some (valL (tl a), B) else if canonB (tl b) = true ∧ valL (tl a) ≤ valL (tl b) then some (valL (tl a), valL (tl b)) else none) else none
  | _ => none
/-- the range that a text is read as -/
def readW (z : Str) : Option (Int × Int) := if z = "empty" then some (-B, -B - 1) else readL (wordsOf z)
theorem tl_inj {x y : Str} (h : tl x = tl y) : x = y := TL.ext_tl h
theorem mem_sub {x : Str} {i j c : Nat} (h : c ∈ tl (Builtin.Str.strSub x i j)) : c ∈ tl x := by
  rw [TL.tl_strSub] at h
  exact List.mem_of_mem_drop (List.mem_of_mem_take h)
theorem mem_parts (x : Str) (v : Nat) : ∀ (cuts : List Nat) (a : Nat), ∀ p ∈ StrLaws.partsFrom x v a cuts, ∀ c ∈ tl p, c ∈ tl x
  | [], a, p, hp, c, hc => by rw [List.mem_singleton.mp hp] at hc; exact mem_sub hc
  | d :: r, a, p, hp, c, hc => by
    rcases List.mem_cons.mp hp with e | e
    · rw [e] at hc; exact mem_sub hc
    · exact mem_parts x v r _ p e c hc
theorem mem_split {x y a : Str} (h : a ∈ PySem.Txt.split x y) : ∀ c ∈ tl a, c ∈ tl x := by
  unfold PySem.Txt.split at h
  split at h
  · rw [List.mem_singleton.mp h]; exact fun _ z => z
  · split at h
    · rw [List.mem_singleton.mp h]; exact fun _ z => z
    · rw [StrLaws.partsBetween_eq] at h
      exact mem_parts x _ _ _ a h
/-- a text that is short, of plain signs -/
def Pln (z : Str) : Prop := z.length ≤ 10000 ∧ AS z
theorem Pln.part {z a : Str} (h : Pln z) (m : a ∈ wordsOf z) : Pln a := ⟨Nat.le_trans (PyProof.Rows.part_short m) h.1, fun c hc => h.2 c (mem_split m c hc)⟩
def Raised (CP : Addr) (H : Hp) (E : XK) : Prop := ∀ d, H d = none → E (.ref CP) (some d) (upd H d (.xd [(("line" : Str), V.int 0)]))
/-- any value: a text or none -/
def spParsed (K : PySem.W.Frag) (C CP : Addr) : Sp := fun vs H Q E => ∃ y, vs = [.ref C, y] ∧
  ((∃ z, y = .str z ∧ Pln z ∧ (∀ r, readW z = some r → NewR C H r Q) ∧ (readW z = none → ∀ H', Same H H' → Raised CP H' E)) ∨ (∃ t, TyX K H y t ∧ kit K t "str" false ∧ Raised CP H E))
section
variable {P : Program} {w : World} {K : PySem.W.Frag} {mg : Str → Option Value} {base : Heap} {C CP : Addr} {mc : Value}
abbrev s_Range_parsed : Stmt := inClass (top 16) 2
theorem sc_Range_parsed : FnScope ["cls", "text", "words", "first"] ["cls", "text"] (defScope s_Range_parsed) := ⟨rfl, rfl, rfl, by decide +kernel, rfl, by decide +kernel, by decide +kernel⟩
theorem ok_parsed (D : CmtK K C mc "parsed" "Range.parsed" s_Range_parsed) (T : Txt K mg C) (M_Range : Mak P w K mg base CX0 3 "Range" C (spInit C)) (G_empty : Cmt P w K mg base CX0 5 C mc "empty" (spEmpty C))
    (G_is_written_integer : Cal P w K mg base CX0 1 "is_written_integer" spWrit) (G_ParseError : ExnB P w K mg base 1 "ParseError" CP (spX CP "line")) : Cmt P w K mg base (L2.CX P w) 6 C mc "parsed" (spParsed K C CP) := by
  refine D.cmtX sc_Range_parsed (fun _ _ _ _ _ _ us hl => match us, hl with | [_, _], _ => rfl) (fun vs H Q E h => ?_) fun f cdv A outer s H vs Q E hr h => ?_
  · obtain ⟨y, rfl, _⟩ := h; rfl
  · obtain ⟨y, rfl, h⟩ := h
    refine ⟨_, (pss_cons (ps_if (pt_not (pt_val (pe_callB call_isi (by rfl) T.b_isinstance (by decide +kernel) (pa_cons (pv 1) (pa_cons (pe_ty (n := "str") (by rfl) T.b_str (by decide +kernel)) pa_nil))))) (pss_one (ps_raise rfl (takes_of rfl rfl rfl rfl) (pmk_b G_ParseError hr (by decide) rfl (pa_cons pe_int pa_nil)))) pss_nil)
      (pss_cons (ps_if (pt_cmpR op_eq (pv 1) pe_str (nomark _)) (pss_one (ps_ret (pe_cm0 G_empty hr (by decide) (pv 0)))) pss_nil)
      (pss_cons (ps_set (i := 2) sc_Range_parsed.nd rfl (Or.inl rfl) (pe_split (pv 1) pe_str))
      (pss_cons (ps_if (PW.pt (pw_or (pt_cmpR op_ne (pe_callB call_len_seq (by rfl) T.b_len (by decide +kernel) (pa_cons (pv 2) pa_nil)) pe_int (nomark _)) (pw_or1 (pt_not (pt_val (pe_c G_is_written_integer hr (by decide) rfl (pa_cons (pe_ix (r := rIxL K) ix_list (pv 2) pe_int (fun _ _ => rfl)) pa_nil))))))) (pss_one (ps_raise rfl (takes_of rfl rfl rfl rfl) (pmk_b G_ParseError hr (by decide) rfl (pa_cons pe_int pa_nil)))) pss_nil)
      (pss_cons (ps_set (i := 3) sc_Range_parsed.nd rfl (Or.inl rfl) (pe_callTy call_int_str (by rfl) T.b_int (by decide +kernel) (pa_cons (pe_ix (r := rIxL K) ix_list (pv 2) pe_int (fun _ _ => rfl)) pa_nil)))
      (pss_cons (ps_if (pt_cmpR op_eq (pe_ix (r := rIxL K) ix_list (pv 2) pe_int (fun _ _ => rfl)) pe_str (nomark _)) (pss_one (ps_ret (pe_mkL (i := 0) M_Range hr (by decide) (by rfl) (Or.inl rfl) (pa_cons (pv 3) (pa_cons pe_non pa_nil))))) pss_nil)
      (pss_cons (ps_if (PW.pt (pw_or (pt_not (pt_val (pe_c G_is_written_integer hr (by decide) rfl (pa_cons (pe_ix (r := rIxL K) ix_list (pv 2) pe_int (fun _ _ => rfl)) pa_nil)))) (pw_or1 (pt_cmpR op_lt (pe_callTy call_int_str (by rfl) T.b_int (by decide +kernel) (pa_cons (pe_ix (r := rIxL K) ix_list (pv 2) pe_int (fun _ _ => rfl)) pa_nil)) (pv 3) (nomark _))))) (pss_one (ps_raise rfl (takes_of rfl rfl rfl rfl) (pmk_b G_ParseError hr (by decide) rfl (pa_cons pe_int pa_nil)))) pss_nil)
      (pss_one (ps_ret (pe_mkL (i := 0) M_Range hr (by decide) (by rfl) (Or.inl rfl) (pa_cons (pv 3) (pa_cons (pe_callTy call_int_str (by rfl) T.b_int (by decide +kernel) (pa_cons (pe_ix (r := rIxL K) ix_list (pv 2) pe_int (fun _ _ => rfl)) pa_nil)) pa_nil)))))))))))), ?_⟩
    rcases h with ⟨z, rfl, pl, k1, k2⟩ | ⟨t, ty, kt, rs⟩
    · have hz := pl.1
      have rsd : readW z = none → ∀ H', Same H H' → tMkO CP (spX CP "line") [] (tCons (tC (.int 0)) tNil) (L2.start ["cls", "text", "words", "first"] [V.ref C, V.str z]) H' (fun cls d H' => E cls d H') :=
        fun e H' sm => x_read fun d nd => k2 e H' sm d nd
      refine ⟨_, rfl, .str z, .ty "str", _, _, true, rfl, .ty "str", .base (.str z), kit_ty (by decide +kernel), true, rfl, iteF ⟨_, rfl, rfl, _, rfl, ?_⟩⟩
      by_cases c0 : z = "empty"
      · have e0 : readW z = some (-B, -B - 1) := if_pos c0
        refine iteTe (decide_eq_true (by rw [c0])) ?_
        exact ⟨_, rfl, rfl, rfl, k1 _ e0⟩
      · have er : readW z = readL (wordsOf z) := if_neg c0
        rw [er] at k1 k2
        refine iteFe (decide_eq_false fun q => c0 (V.str.inj q)) ⟨_, rfl, ⟨z, rfl⟩, z, _, rfl, rfl, by decide, by rw [sizeLine_eq]; omega, fun l nl => ?_⟩
        have hl : upd H l (.lst ((wordsOf z).map V.str)) l = some (.lst ((wordsOf z).map V.str)) := upd_same
        have sm : Same H (upd H l (.lst ((wordsOf z).map V.str))) := same_new nl
        have pw : ∀ a ∈ wordsOf z, Pln a := fun a m => pl.part m
        rw [show PySem.Txt.split z (Str.ofString " ") = wordsOf z from rfl]
        generalize hW : wordsOf z = ws at *
        match ws with
        | [] => exact ⟨_, rfl, l, _, rfl, .inl (SqL.of hl), rfl, _, rfl, iteT (x_read fun d nd => k2 rfl _ sm d nd)⟩
        | [a] => exact ⟨_, rfl, l, _, rfl, .inl (SqL.of hl), rfl, _, rfl, iteT (x_read fun d nd => k2 rfl _ sm d nd)⟩
        | a :: b :: c :: r =>
          refine ⟨_, rfl, l, _, rfl, .inl (SqL.of hl), rfl, _, rfl, iteTe ?_ (x_read fun d nd => k2 rfl _ sm d nd)⟩
          rw [Bool.not_eq_true', decide_eq_false_iff_not]
          intro q
          have q2 := V.int.inj q
          rw [List.length_map] at q2
          have : (a :: b :: c :: r).length = r.length + 3 := rfl
          omega
        | [a, b] =>
          have pa := pw a (by simp)
          have pb := pw b (by simp)
          refine ⟨_, rfl, l, _, rfl, .inl (SqL.of hl), rfl, _, rfl, iteF ⟨_, rfl, l, _, 0, _, rfl, rfl, SqL.of hl, atI_nat (j := 0) rfl, a, rfl, pa.1, pa.2, _, rfl, ?_⟩⟩
          have e2 : readL [a, b] = if canonB (tl a) = true then (if b = "-" then some (valL (tl a), B) else if canonB (tl b) = true ∧ valL (tl a) ≤ valL (tl b) then some (valL (tl a), valL (tl b)) else none) else none := rfl
          rw [e2] at k1 k2
          cases ca : canonB (tl a) with
          | false =>
            rw [ca, if_neg (by decide)] at k2
            exact iteT (x_read fun d nd => k2 rfl _ sm d nd)
          | true =>
            rw [ca, if_pos rfl] at k1 k2
            obtain ⟨a1, a2, a3⟩ := canon_of ca
            have ba := valL_bnd a1 a3
            have la := len_tl' a
            have la2 := len_fg (tl a)
            have ia := int_val a1 a2 (show a.length ≤ 4300 by omega)
            refine iteF ⟨_, rfl, l, _, 0, _, rfl, rfl, SqL.of hl, atI_nat (j := 0) rfl, a, _, rfl, ia, by omega, ?_⟩
            refine ⟨_, rfl, l, _, 1, _, rfl, rfl, SqL.of hl, atI_nat (j := 1) rfl, rfl, _, rfl, ?_⟩
            by_cases cb : b = "-"
            · rw [if_pos cb] at k1
              refine iteTe (decide_eq_true (by rw [cb])) ⟨rfl, _, rfl, fun x dx nx ndx nex => ⟨x, dx, valL (tl a), none, rfl, upd_same, ba, trivial, fun H1 R kp => ⟨rfl, k1 _ rfl x H1 (sm.free nx) (sm.trans (Same.made nx ndx kp)) R⟩⟩⟩
            · rw [if_neg cb] at k1 k2
              refine iteFe (decide_eq_false fun q => cb (V.str.inj q)) ?_
              refine ⟨_, rfl, l, _, 1, _, rfl, rfl, SqL.of hl, atI_nat (j := 1) rfl, b, rfl, pb.1, pb.2, _, rfl, ?_⟩
              cases cc : canonB (tl b) with
              | false =>
                rw [cc, if_neg (fun z => nomatch z.1)] at k2
                exact iteT (x_read fun d nd => k2 rfl _ sm d nd)
              | true =>
                rw [cc] at k1 k2
                obtain ⟨b1, b2, b3⟩ := canon_of cc
                have bb := valL_bnd b1 b3
                have lb := len_tl' b
                have lb2 := len_fg (tl b)
                have ib := int_val b1 b2 (show b.length ≤ 4300 by omega)
                refine iteF ⟨_, rfl, l, _, 1, _, rfl, rfl, SqL.of hl, atI_nat (j := 1) rfl, b, _, rfl, ib, by omega, _, rfl, _, _, rfl, rfl, _, rfl, ?_⟩
                by_cases c : valL (tl b) < valL (tl a)
                · rw [if_neg (fun z => by have := z.2; omega)] at k2
                  exact iteTe (decide_eq_true c) (x_read fun d nd => k2 rfl _ sm d nd)
                · rw [if_pos ⟨rfl, by omega⟩] at k1
                  refine iteFe (decide_eq_false c) ⟨rfl, _, rfl, _, rfl, l, _, 1, _, rfl, rfl, SqL.of hl, atI_nat (j := 1) rfl, b, _, rfl, ib, by omega, fun x dx nx ndx nex => ⟨x, dx, valL (tl a), some (valL (tl b)), rfl, upd_same, ba, bb, fun H1 R kp => ⟨rfl, k1 _ rfl x H1 (sm.free nx) (sm.trans (Same.made nx ndx kp)) ?_⟩⟩⟩
                  have e : mkR (valL (tl a)) (some (valL (tl b))) = (valL (tl a), valL (tl b)) := if_neg c
                  rw [e] at R
                  exact R
    · refine ⟨_, rfl, y, .ty "str", t, _, false, rfl, .ty "str", ty, kt, false, rfl, iteT (x_read fun d nd => rs d nd)⟩
end

end K04

namespace K04
open PySem PySem.Spec PyProof.Rows L2 Jg
local macro_rules | `(tactic| walk_at "rd1") => `(tactic| (first
  | refine ⟨_, rfl, ?_⟩
  | refine ⟨_, _, rfl, rfl, ?_⟩
  | refine ⟨_, _, rfl, ?_⟩
  | refine ⟨rfl, ?_⟩
  | (refine ⟨show (0 : Int) < _ by omega, ?_⟩)
  | (refine ⟨Or.inl ⟨by omega, by omega⟩, ?_⟩)
  | (refine ⟨Or.inr ⟨by omega, by omega⟩, ?_⟩)
  | (refine ⟨(⟨by decide, by decide, by decide⟩ : CPow _ _), ?_⟩)
  | refine Or.inl ⟨_, rfl, ?_⟩
  | refine Or.inr ⟨_, rfl, ?_⟩
  | fail "rd"))
local macro_rules | `(tactic| walk_at "rd") => `(tactic| repeat' walk_at "rd1")


open TL (tl numL)
/-! ### what the law's functions answer: None, 'empty' or a pair -/
abbrev Res := Option (Option (Int × Option Int))
def RV (H : Hp) (v : V) : Res → Prop
  | none => v = .non
  | some none => v = .str "empty"
  | some (some (f, l)) => ∃ p, v = .ref p ∧ H p = some (.tup [.int f, oV l])
def oD : Option Int → PyData
  | none => .none
  | some i => .int i
def resD : Res → PyData
  | none => .none
  | some none => .str "empty"
  | some (some (f, l)) => .tuple [.int f, oD l]
theorem RV.keep {H H' : Hp} {v : V} {e : Res} (s : Same H H') (h : RV H v e) : RV H' v e := by
  match e, h with
  | none, h => exact h
  | some none, h => exact h
  | some (some (f, l)), ⟨p, e, h⟩ => exact ⟨p, e, s _ _ h⟩
theorem RV.dp {K : PySem.W.Frag} {H : Hp} {v : V} {e : Res} (h : RV H v e) : Dp K H v (resD e) := by
  match e, h with
  | none, h => rw [show v = .non from h]; exact .non
  | some none, h => rw [show v = .str "empty" from h]; exact .str _
  | some (some (f, none)), ⟨p, e, h⟩ => rw [e]; exact .tup (SqT.of h) (.cons (.int f) (.cons .non .nil))
  | some (some (f, some l)), ⟨p, e, h⟩ => rw [e]; exact .tup (SqT.of h) (.cons (.int f) (.cons (.int l) .nil))
theorem resD_ok (e : Res) : SeqAt.shaped (resD e) = true ∧ PyData.eqv (resD e) (resD e) = true := by
  match e with
  | none => exact ⟨by decide +kernel, by simp [resD, PyData.eqv]⟩
  | some none => exact ⟨by decide +kernel, by simp [resD, PyData.eqv]⟩
  | some (some (f, none)) => exact ⟨by simp [resD, oD, SeqAt.shaped, PyData.canLay0, PyData.canLayAll0, PyData.depth, PyData.depthAll], by simp [resD, oD, PyData.eqv, PyData.eqvAll]⟩
  | some (some (f, some l)) => exact ⟨by simp [resD, oD, SeqAt.shaped, PyData.canLay0, PyData.canLayAll0, PyData.depth, PyData.depthAll], by simp [resD, oD, PyData.eqv, PyData.eqvAll]⟩
/-- the pair of a range -/
def resOf (r : Int × Int) : Option (Int × Option Int) := if r.2 < r.1 then none else some (r.1, if r.2 = B then none else some r.2)
def Gives (H : Hp) (e : Res) (Q : VK) : Prop := ∀ v H', Same H H' → RV H' v e → Q v H'
/-- the pair that was drawn, moved -/
def resMv (f : Int) (d : Int) : Option Int → Option (Int × Option Int)
  | none => some (f + d, none)
  | some i => if i < f then none else some (f + d, some (i + d))
def spEnds (C : Addr) : Sp := fun vs H Q _ => ∃ p r, vs = [.ref p] ∧ RAt C H p r ∧ RngOk r ∧ Gives H (some (resOf r)) Q
def spMoved (K : PySem.W.Frag) : Sp := fun vs H Q _ => ∃ t f l d, vs = [.ref t, .int d] ∧ H t = some (.tup [.int f, oV l]) ∧ Gives H (some (resMv f d l)) Q
def spText : Sp := fun vs H Q _ => ∃ t f l, vs = [.ref t] ∧ H t = some (.tup [.int f, oV l]) ∧ Bnd f ∧ BndO l ∧ Q (.str (strR (mkR f l))) H
def dueRes (z : Str) : Res := (readW z).map resOf
def spDue : Sp := fun vs H Q _ => ∃ z, vs = [.str z] ∧ Pln z ∧ Gives H (dueRes z) Q
def spRead (K : PySem.W.Frag) (CP : Addr) : Sp := fun vs H Q _ => ∃ y, vs = [y] ∧ ((∃ z, y = .str z ∧ Pln z ∧ Gives H (dueRes z) Q) ∨ (∃ t, TyX K H y t ∧ kit K t "str" false ∧ Gives H none Q))
theorem readL_ok {ws : List Str} {r : Int × Int} (h : readL ws = some r) : RngOk r := by
  have hB := B_eq
  match ws with
  | [] => cases h
  | [_] => cases h
  | _ :: _ :: _ :: _ => cases h
  | [a, b] =>
    have e2 : readL [a, b] = if canonB (tl a) = true then (if b = "-" then some (valL (tl a), B) else if canonB (tl b) = true ∧ valL (tl a) ≤ valL (tl b) then some (valL (tl a), valL (tl b)) else none) else none := rfl
    rw [e2] at h
    split at h
    · rename_i ca
      obtain ⟨a1, a2, a3⟩ := canon_of ca
      have ba := valL_bnd a1 a3
      have : -B < valL (tl a) := ba.1
      have : valL (tl a) < B := ba.2
      split at h
      · cases h
        exact .inr ⟨ba, by show valL (tl a) ≤ B; omega, by show B ≤ B; omega⟩
      · split at h
        · rename_i c
          cases h
          obtain ⟨b1, b2, b3⟩ := canon_of c.1
          have bb := valL_bnd b1 b3
          have : valL (tl b) < B := bb.2
          exact .inr ⟨ba, c.2, by show valL (tl b) ≤ B; omega⟩
        · cases h
    · cases h
theorem readW_ok {z : Str} {r : Int × Int} (h : readW z = some r) : RngOk r := by
  unfold readW at h
  split at h
  · cases h; exact .inl rfl
  · exact readL_ok h
theorem res_moved {f d : Int} {l : Option Int} (h1 : Bnd (f + d)) (h2 : ∀ i, l = some i → Bnd i ∧ Bnd (i + d)) (h0 : Bnd f) : resOf (mvR (mkR f l) d) = resMv f d l := by
  have hB := B_eq
  have h01 : -B < f := h0.1
  have h02 : f < B := h0.2
  have h11 : -B < f + d := h1.1
  have h12 : f + d < B := h1.2
  match l with
  | none =>
    have e1 : mvR (mkR f none) d = (f + d, B) := by
      show (if B < f then _ else _) = _
      rw [if_neg (by omega)]
      show (f + d, if B = B then B else B + d) = _
      rw [if_pos rfl]
    rw [e1]
    show (if B < f + d then _ else _) = _
    rw [if_neg (by omega)]
    show some (f + d, if B = B then _ else _) = _
    rw [if_pos rfl]; rfl
  | some i =>
    obtain ⟨⟨q1, q2⟩, q3, q4⟩ := h2 i rfl
    by_cases c : i < f
    · have e0 : mkR f (some i) = (-B, -B - 1) := if_pos c
      have e1 : mvR (mkR f (some i)) d = (-B, -B - 1) := by
        rw [e0]
        show (if -B - 1 < -B then _ else _) = _
        rw [if_pos (by omega)]
      rw [e1]
      show (if -B - 1 < -B then _ else _) = (if i < f then _ else _)
      rw [if_pos (by omega), if_pos c]
    · have e0 : mkR f (some i) = (f, i) := if_neg c
      have e1 : mvR (mkR f (some i)) d = (f + d, i + d) := by
        rw [e0]
        show (if i < f then _ else (f + d, if i = B then B else i + d)) = _
        rw [if_neg c, if_neg (by omega)]
      rw [e1]
      show (if i + d < f + d then _ else some (f + d, if i + d = B then _ else _)) = (if i < f then _ else _)
      rw [if_neg (by omega), if_neg (by omega), if_neg c]
theorem num_yes {z : Str} (h : canonB (tl z) = true) : numV z = .int (valL (tl z)) := if_pos h
theorem num_no {z : Str} (h : canonB (tl z) = false) : numV z = .non := if_neg (by rw [h]; decide)
structure TstP (K : PySem.W.Frag) (mg : Str → Option Value) (CP CG : Addr) : Prop where
  gGap : mg "GapError" = some (.ref CG)
  kG : PySem.W.kitOne K (.ref CP) (.ref CG) = some true
section
variable {P : Program} {w : World} {K : PySem.W.Frag} {mg : Str → Option Value} {base : Heap} {C CP CG : Addr} {mc : Value} {st : Stmt}
abbrev s_law_ends : Stmt := top 22
theorem sc_law_ends : FnScope ["drawn"] ["drawn"] (defScope s_law_ends) := ⟨rfl, rfl, rfl, by decide +kernel, rfl, by decide +kernel, by decide +kernel⟩
theorem ok_ends (D : DefK K mg "_law_ends" s_law_ends) (T : Txt K mg C) (G_bool : Met P w K mg base CX0 1 C "__bool__" (spBoo C)) (G_first : Prp P w K mg base CX0 1 C "first" (spFirst C)) (G_last : Prp P w K mg base CX0 1 C "last" (spLast C)) : Cal P w K mg base CX0 3 "_law_ends" (spEnds C) := by
  refine D.cal sc_law_ends (fun _ _ _ _ _ _ us hl => match us, hl with | [_], _ => rfl) (fun vs H Q E h => ?_) fun f cdv A outer s H vs Q E hr h => ?_
  · obtain ⟨p, r, rfl, _⟩ := h; rfl
  · obtain ⟨p, r, rfl, hp0, ok, k⟩ := h
    obtain ⟨dx, hp⟩ := id hp0
    refine ⟨_, (pss_cons (ps_if (pt_not (pt_own G_bool hr (by decide) (pv 0))) (pss_one (ps_ret pe_str)) pss_nil)
      (pss_one (ps_ret (pe_tup (pa_cons (pe_p G_first T.cl hr (by decide) (pv 0)) (pa_cons (pe_p G_last T.cl hr (by decide) (pv 0)) pa_nil)))))), ?_⟩
    unfold resOf at k
    refine ⟨_, rfl, p, dx, _, rfl, hp, p, r, rfl, hp0, _, rfl, ?_⟩
    by_cases c : r.2 < r.1
    · rw [if_pos c] at k
      refine iteTe (by rw [decide_eq_false (by omega)]; rfl) (k _ _ (Same.refl _) rfl)
    · rw [if_neg c] at k
      refine iteFe (by rw [decide_eq_true (by omega)]; rfl) ?_
      have ok2 : Bnd r.1 ∧ r.1 ≤ r.2 ∧ r.2 ≤ B := by
        rcases ok with e | e
        · rw [e] at c; exact absurd (by show -B - 1 < -B; omega) c
        · exact e
      have e1 : firstV r = .int r.1 := if_neg c
      have e2 : lastV r = oV (if r.2 = B then none else some r.2) := by
        unfold lastV
        rw [if_neg c]
        split <;> rfl
      refine ⟨_, rfl, p, dx, _, rfl, hp, p, r, rfl, hp0, _, rfl, p, dx, _, rfl, hp, p, r, rfl, hp0, by show 2 ≤ sizeLine; decide, fun q nq => ?_⟩
      refine k _ _ (same_new nq) ⟨q, rfl, ?_⟩
      rw [upd_same, e1, e2]
abbrev s_law_moved : Stmt := top 23
theorem sc_law_moved : FnScope ["ends", "distance"] ["ends", "distance"] (defScope s_law_moved) := ⟨rfl, rfl, rfl, by decide +kernel, rfl, by decide +kernel, by decide +kernel⟩
theorem ok_lmoved (D : DefK K mg "_law_moved" s_law_moved) (T : Txt K mg C) : Cal P w K mg base CX0 1 "_law_moved" (spMoved K) := by
  refine D.cal sc_law_moved (fun _ _ _ _ _ _ us hl => match us, hl with | [_, _], _ => rfl) (fun vs H Q E h => ?_) fun fA cdv A outer s H vs Q E hr h => ?_
  · obtain ⟨t, f, l, d, rfl, _⟩ := h; rfl
  · obtain ⟨t, f, l, d, rfl, ht, k⟩ := h
    refine ⟨_, (pss_cons (ps_if (PW.pt (pw_and (pt_cmpR op_notN (pe_ix (r := rIxT K) ix_tup (pv 0) pe_int (fun _ _ => rfl)) pe_non (nomark _)) (pw_and1 (pt_cmpR op_lt (pe_ix (r := rIxT K) ix_tup (pv 0) pe_int (fun _ _ => rfl)) (pe_ix (r := rIxT K) ix_tup (pv 0) pe_int (fun _ _ => rfl)) (nomark _))))) (pss_one (ps_ret pe_str)) pss_nil)
      (pss_one (ps_ret (pe_tup (pa_cons (pe_op op_add (pe_ix (r := rIxT K) ix_tup (pv 0) pe_int (fun _ _ => rfl)) (pv 1)) (pa_cons (pe_ifExp (pt_cmpR op_isN (pe_ix (r := rIxT K) ix_tup (pv 0) pe_int (fun _ _ => rfl)) pe_non (nomark _)) pe_non (pe_op op_add (pe_ix (r := rIxT K) ix_tup (pv 0) pe_int (fun _ _ => rfl)) (pv 1))) pa_nil)))))), ?_⟩
    have h0 : SqT K H t [V.int f, oV l] := SqT.of ht
    match l with
    | none =>
      refine ⟨_, rfl, t, _, 1, _, rfl, rfl, h0, atI_nat (j := 1) rfl, rfl, _, rfl, iteF ?_⟩
      refine ⟨_, rfl, t, _, 0, _, rfl, rfl, h0, atI_nat (j := 0) rfl, _, rfl, _, _, rfl, rfl, _, rfl, t, _, 1, _, rfl, rfl, h0, atI_nat (j := 1) rfl, rfl, _, rfl, iteT ⟨by show 2 ≤ sizeLine; decide, fun q nq => ?_⟩⟩
      exact k _ _ (same_new nq) ⟨q, rfl, upd_same⟩
    | some i =>
      refine ⟨_, rfl, t, _, 1, _, rfl, rfl, h0, atI_nat (j := 1) rfl, rfl, _, rfl, iteT ⟨_, rfl, t, _, 1, _, rfl, rfl, h0, atI_nat (j := 1) rfl, _, rfl, t, _, 0, _, rfl, rfl, h0, atI_nat (j := 0) rfl, _, _, rfl, rfl, _, rfl, ?_⟩⟩
      have e0 : resMv f d (some i) = if i < f then none else some (f + d, some (i + d)) := rfl
      rw [e0] at k
      by_cases c : i < f
      · rw [if_pos c] at k
        exact iteTe (decide_eq_true c) (k _ _ (Same.refl _) rfl)
      · rw [if_neg c] at k
        refine iteFe (decide_eq_false c) ⟨_, rfl, t, _, 0, _, rfl, rfl, h0, atI_nat (j := 0) rfl, _, rfl, _, _, rfl, rfl, _, rfl, t, _, 1, _, rfl, rfl, h0, atI_nat (j := 1) rfl, rfl, _, rfl, iteF ⟨_, rfl, t, _, 1, _, rfl, rfl, h0, atI_nat (j := 1) rfl, _, rfl, _, _, rfl, rfl, by show 2 ≤ sizeLine; decide, fun q nq => ?_⟩⟩
        exact k _ _ (same_new nq) ⟨q, rfl, upd_same⟩
abbrev s_law_text : Stmt := top 24
theorem sc_law_text : FnScope ["ends"] ["ends"] (defScope s_law_text) := ⟨rfl, rfl, rfl, by decide +kernel, rfl, by decide +kernel, by decide +kernel⟩
theorem ok_ltext (D : DefK K mg "_law_text" s_law_text) (T : Txt K mg C) : Cal P w K mg base CX0 1 "_law_text" spText := by
  refine D.cal sc_law_text (fun _ _ _ _ _ _ us hl => match us, hl with | [_], _ => rfl) (fun vs H Q E h => ?_) fun fA cdv A outer s H vs Q E hr h => ?_
  · obtain ⟨t, f, l, rfl, _⟩ := h; rfl
  · obtain ⟨t, f, l, rfl, ht, bf, bl, k⟩ := h
    refine ⟨_, (pss_cons (ps_if (PW.pt (pw_and (pt_cmpR op_notN (pe_ix (r := rIxT K) ix_tup (pv 0) pe_int (fun _ _ => rfl)) pe_non (nomark _)) (pw_and1 (pt_cmpR op_lt (pe_ix (r := rIxT K) ix_tup (pv 0) pe_int (fun _ _ => rfl)) (pe_ix (r := rIxT K) ix_tup (pv 0) pe_int (fun _ _ => rfl)) (nomark _))))) (pss_one (ps_ret pe_str)) pss_nil)
      (pss_one (ps_ret (pe_op op_add_str (pe_op op_add_str (pe_callTy call_str_int (by rfl) T.b_str (by decide +kernel) (pa_cons (pe_ix (r := rIxT K) ix_tup (pv 0) pe_int (fun _ _ => rfl)) pa_nil)) pe_str) (pe_ifExp (pt_cmpR op_isN (pe_ix (r := rIxT K) ix_tup (pv 0) pe_int (fun _ _ => rfl)) pe_non (nomark _)) pe_str (pe_callTy call_str_int (by rfl) T.b_str (by decide +kernel) (pa_cons (pe_ix (r := rIxT K) ix_tup (pv 0) pe_int (fun _ _ => rfl)) pa_nil))))))), ?_⟩
    have h0 : SqT K H t [V.int f, oV l] := SqT.of ht
    have sp1 : (Str.ofString " ").length = 1 := by decide
    have da1 : (Str.ofString "-").length = 1 := by decide
    have lf := big_len (bnd61 bf)
    have hB := B_eq
    have f1 : -B < f := bf.1
    have f2 : f < B := bf.2
    have szl := sizeLine_eq
    match l with
    | none =>
      have e : strR (mkR f none) = tS f ++ " -" := by
        show (if B < f then _ else if B = B then _ else _) = _
        rw [if_neg (by omega), if_pos rfl]; rfl
      rw [e] at k
      refine ⟨_, rfl, t, _, 1, _, rfl, rfl, h0, atI_nat (j := 1) rfl, rfl, _, rfl, iteF ?_⟩
      refine ⟨_, rfl, t, _, 0, _, rfl, rfl, h0, atI_nat (j := 0) rfl, f, rfl, big_log (bnd61 bf), _, _, rfl, rfl, ?_, _, rfl, t, _, 1, _, rfl, rfl, h0, atI_nat (j := 1) rfl, rfl, _, rfl, iteT ⟨_, _, rfl, rfl, ?_, ?_⟩⟩
      · show (tS f).length + _ ≤ _
        omega
      · rw [Str.length_append]
        show (tS f).length + _ + _ ≤ _
        omega
      · have e2 : Str.ofString (toString f) ++ Str.ofString " " ++ Str.ofString "-" = tS f ++ " -" := by
          rw [Str.append_assoc]
          congr 1
        rw [e2]
        exact k
    | some i =>
      have bi : Bnd i := bl
      have i1 : -B < i := bi.1
      have i2 : i < B := bi.2
      have li := big_len (bnd61 bi)
      refine ⟨_, rfl, t, _, 1, _, rfl, rfl, h0, atI_nat (j := 1) rfl, rfl, _, rfl, iteT ⟨_, rfl, t, _, 1, _, rfl, rfl, h0, atI_nat (j := 1) rfl, _, rfl, t, _, 0, _, rfl, rfl, h0, atI_nat (j := 0) rfl, _, _, rfl, rfl, _, rfl, ?_⟩⟩
      by_cases c : i < f
      · have e : strR (mkR f (some i)) = "empty" := by
          rw [show mkR f (some i) = (-B, -B - 1) from if_pos c]
          exact if_pos (by show -B - 1 < -B; omega)
        rw [e] at k
        exact iteTe (decide_eq_true c) k
      · have e : strR (mkR f (some i)) = tS f ++ " " ++ tS i := by
          rw [show mkR f (some i) = (f, i) from if_neg c]
          show (if i < f then _ else if i = B then _ else _) = _
          rw [if_neg c, if_neg (by omega)]
        rw [e] at k
        refine iteFe (decide_eq_false c) ?_
        refine ⟨_, rfl, t, _, 0, _, rfl, rfl, h0, atI_nat (j := 0) rfl, f, rfl, big_log (bnd61 bf), _, _, rfl, rfl, ?_, _, rfl, t, _, 1, _, rfl, rfl, h0, atI_nat (j := 1) rfl, rfl, _, rfl, iteF ⟨_, rfl, t, _, 1, _, rfl, rfl, h0, atI_nat (j := 1) rfl, i, rfl, big_log (bnd61 bi), _, _, rfl, rfl, ?_, k⟩⟩
        · show (tS f).length + _ ≤ _
          omega
        · rw [Str.length_append]
          show (tS f).length + _ + (tS i).length ≤ _
          omega
abbrev s_law_due : Stmt := top 27
theorem sc_law_due : FnScope ["text", "words"] ["text"] (defScope s_law_due) := ⟨rfl, rfl, rfl, by decide +kernel, rfl, by decide +kernel, by decide +kernel⟩
theorem ok_due (D : DefK K mg "_law_due" s_law_due) (T : Txt K mg C) (G_law_number : Cal P w K mg base CX0 1 "_law_number" spNum) : Cal P w K mg base CX0 2 "_law_due" spDue := by
  refine D.cal sc_law_due (fun _ _ _ _ _ _ us hl => match us, hl with | [_], _ => rfl) (fun vs H Q E h => ?_) fun fA cdv A outer s H vs Q E hr h => ?_
  · obtain ⟨z, rfl, _⟩ := h; rfl
  · obtain ⟨z, rfl, pl, k⟩ := h
    have hz := pl.1
    refine ⟨_, (pss_cons (ps_set (i := 1) sc_law_due.nd rfl (Or.inl rfl) (pe_split (pv 0) pe_str))
      (pss_cons (ps_if (pt_cmpR op_eq (pv 0) pe_str (nomark _)) (pss_one (ps_ret pe_str)) pss_nil)
      (pss_cons (ps_if (PW.pt (pw_or (pt_cmpR op_ne (pe_callB call_len_seq (by rfl) T.b_len (by decide +kernel) (pa_cons (pv 1) pa_nil)) pe_int (nomark _)) (pw_or1 (pt_cmpR op_isN (pe_c G_law_number hr (by decide) rfl (pa_cons (pe_ix (r := rIxL K) ix_list (pv 1) pe_int (fun _ _ => rfl)) pa_nil)) pe_non (nomark _))))) (pss_one (ps_ret pe_non)) pss_nil)
      (pss_cons (ps_if (pt_cmpR op_eq (pe_ix (r := rIxL K) ix_list (pv 1) pe_int (fun _ _ => rfl)) pe_str (nomark _)) (pss_one (ps_ret (pe_tup (pa_cons (pe_c G_law_number hr (by decide) rfl (pa_cons (pe_ix (r := rIxL K) ix_list (pv 1) pe_int (fun _ _ => rfl)) pa_nil)) (pa_cons pe_non pa_nil))))) pss_nil)
      (pss_cons (ps_if (PW.pt (pw_or (pt_cmpR op_isN (pe_c G_law_number hr (by decide) rfl (pa_cons (pe_ix (r := rIxL K) ix_list (pv 1) pe_int (fun _ _ => rfl)) pa_nil)) pe_non (nomark _)) (pw_or1 (pt_cmpR op_lt (pe_c G_law_number hr (by decide) rfl (pa_cons (pe_ix (r := rIxL K) ix_list (pv 1) pe_int (fun _ _ => rfl)) pa_nil)) (pe_c G_law_number hr (by decide) rfl (pa_cons (pe_ix (r := rIxL K) ix_list (pv 1) pe_int (fun _ _ => rfl)) pa_nil)) (nomark _))))) (pss_one (ps_ret pe_non)) pss_nil)
      (pss_one (ps_ret (pe_tup (pa_cons (pe_c G_law_number hr (by decide) rfl (pa_cons (pe_ix (r := rIxL K) ix_list (pv 1) pe_int (fun _ _ => rfl)) pa_nil)) (pa_cons (pe_c G_law_number hr (by decide) rfl (pa_cons (pe_ix (r := rIxL K) ix_list (pv 1) pe_int (fun _ _ => rfl)) pa_nil)) pa_nil)))))))))), ?_⟩
    refine ⟨_, rfl, ⟨z, rfl⟩, z, _, rfl, rfl, by decide, by rw [sizeLine_eq]; omega, fun l nl => ?_⟩
    rw [show PySem.Txt.split z (Str.ofString " ") = wordsOf z from rfl]
    have sm : Same H (upd H l (.lst ((wordsOf z).map V.str))) := same_new nl
    have hl : SqL K (upd H l (.lst ((wordsOf z).map V.str))) l ((wordsOf z).map V.str) := SqL.of upd_same
    refine ⟨_, rfl, rfl, _, rfl, ?_⟩
    unfold dueRes at k
    by_cases c0 : z = "empty"
    · have e0 : readW z = some (-B, -B - 1) := if_pos c0
      rw [e0] at k
      have e1 : resOf (-B, -B - 1) = none := if_pos (by show -B - 1 < -B; omega)
      refine iteTe (decide_eq_true (by rw [c0])) (k _ _ sm ?_)
      show RV _ _ (some (resOf (-B, -B - 1)))
      rw [e1]; rfl
    · have er : readW z = readL (wordsOf z) := if_neg c0
      rw [er] at k
      refine iteFe (decide_eq_false fun q => c0 (V.str.inj q)) ?_
      have pw : ∀ a ∈ wordsOf z, Pln a := fun a m => pl.part m
      generalize hW : wordsOf z = ws at *
      match ws with
      | [] => exact ⟨_, rfl, l, _, rfl, .inl hl, rfl, _, rfl, iteT (k _ _ sm rfl)⟩
      | [a] => exact ⟨_, rfl, l, _, rfl, .inl hl, rfl, _, rfl, iteT (k _ _ sm rfl)⟩
      | a :: b :: c :: r =>
        refine ⟨_, rfl, l, _, rfl, .inl hl, rfl, _, rfl, iteTe ?_ (k _ _ sm rfl)⟩
        rw [Bool.not_eq_true', decide_eq_false_iff_not]
        intro q
        have q2 := V.int.inj q
        rw [List.length_map] at q2
        have : (a :: b :: c :: r).length = r.length + 3 := rfl
        omega
      | [a, b] =>
        have pa := pw a (by simp)
        have pb := pw b (by simp)
        refine ⟨_, rfl, l, _, rfl, .inl hl, rfl, _, rfl, iteF ⟨_, rfl, l, _, 0, _, rfl, rfl, hl, atI_nat (j := 0) rfl, a, rfl, pa.1, pa.2, fun H2 s2 => ⟨rfl, _, rfl, ?_⟩⟩⟩
        have sm2 := sm.trans s2
        have hl2 := s2.seq hl
        have e2 : readL [a, b] = if canonB (tl a) = true then (if b = "-" then some (valL (tl a), B) else if canonB (tl b) = true ∧ valL (tl a) ≤ valL (tl b) then some (valL (tl a), valL (tl b)) else none) else none := rfl
        rw [e2] at k
        cases ca : canonB (tl a) with
        | false =>
          rw [ca, if_neg (by decide)] at k
          exact iteTe (decide_eq_true (num_no ca)) (k _ _ sm2 rfl)
        | true =>
          rw [ca, if_pos rfl] at k
          obtain ⟨a1, a2, a3⟩ := canon_of ca
          have ba := valL_bnd a1 a3
          have hB := B_eq
          have ba2 : valL (tl a) < B := ba.2
          refine iteFe (by rw [num_yes ca]; rfl) ⟨_, rfl, l, _, 1, _, rfl, rfl, hl2, atI_nat (j := 1) rfl, rfl, _, rfl, ?_⟩
          by_cases cb : b = "-"
          · rw [if_pos cb] at k
            refine iteTe (decide_eq_true (by rw [cb])) ⟨_, rfl, l, _, 0, _, rfl, rfl, hl2, atI_nat (j := 0) rfl, a, rfl, pa.1, pa.2, fun H3 s3 => ⟨by show 2 ≤ sizeLine; decide, fun q nq => ?_⟩⟩
            have e1 : resOf (valL (tl a), B) = some (valL (tl a), none) := by
              show (if B < valL (tl a) then _ else some (valL (tl a), if B = B then _ else _)) = _
              rw [if_neg (by omega), if_pos rfl]
            refine k _ _ (same_new' (sm2.trans s3) nq) ?_
            show RV _ _ (some (resOf (valL (tl a), B)))
            rw [e1]
            refine ⟨q, rfl, ?_⟩
            rw [upd_same, num_yes ca]; rfl
          · rw [if_neg cb] at k
            refine iteFe (decide_eq_false fun q => cb (V.str.inj q)) ⟨_, rfl, l, _, 1, _, rfl, rfl, hl2, atI_nat (j := 1) rfl, b, rfl, pb.1, pb.2, fun H3 s3 => ⟨rfl, _, rfl, ?_⟩⟩
            have sm3 := sm2.trans s3
            have hl3 := s3.seq hl2
            cases cc : canonB (tl b) with
            | false =>
              rw [cc, if_neg (fun z => nomatch z.1)] at k
              exact iteTe (decide_eq_true (num_no cc)) (k _ _ sm3 rfl)
            | true =>
              rw [cc] at k
              obtain ⟨b1, b2, b3⟩ := canon_of cc
              have bb := valL_bnd b1 b3
              have bb2 : valL (tl b) < B := bb.2
              refine iteFe (by rw [num_yes cc]; rfl) ⟨_, rfl, l, _, 1, _, rfl, rfl, hl3, atI_nat (j := 1) rfl, b, rfl, pb.1, pb.2, fun H4 s4 => ?_⟩
              have sm4 := sm3.trans s4
              have hl4 := s4.seq hl3
              refine ⟨_, rfl, l, _, 0, _, rfl, rfl, hl4, atI_nat (j := 0) rfl, a, rfl, pa.1, pa.2, fun H5 s5 => ⟨valL (tl b), valL (tl a), num_yes cc, num_yes ca, _, rfl, ?_⟩⟩
              have sm5 := sm4.trans s5
              have hl5 := s5.seq hl4
              by_cases c : valL (tl b) < valL (tl a)
              · rw [if_neg (fun z => by have := z.2; omega)] at k
                exact iteTe (decide_eq_true c) (k _ _ sm5 rfl)
              · rw [if_pos ⟨rfl, by omega⟩] at k
                refine iteFe (decide_eq_false c) ⟨_, rfl, l, _, 0, _, rfl, rfl, hl5, atI_nat (j := 0) rfl, a, rfl, pa.1, pa.2, fun H6 s6 => ⟨_, rfl, l, _, 1, _, rfl, rfl, s6.seq hl5, atI_nat (j := 1) rfl, b, rfl, pb.1, pb.2, fun H7 s7 => ⟨by show 2 ≤ sizeLine; decide, fun q nq => ?_⟩⟩⟩
                have e1 : resOf (valL (tl a), valL (tl b)) = some (valL (tl a), some (valL (tl b))) := by
                  show (if valL (tl b) < valL (tl a) then _ else some (valL (tl a), if valL (tl b) = B then _ else _)) = _
                  rw [if_neg c, if_neg (by omega)]
                refine k _ _ (same_new' ((sm5.trans s6).trans s7) nq) ?_
                show RV _ _ (some (resOf (valL (tl a), valL (tl b))))
                rw [e1]
                refine ⟨q, rfl, ?_⟩
                rw [upd_same, num_yes ca, num_yes cc]; rfl
abbrev s_law_read : Stmt := top 28
theorem sc_law_read : FnScope ["text", "e"] ["text"] (defScope s_law_read) := ⟨rfl, rfl, rfl, by decide +kernel, rfl, by decide +kernel, by decide +kernel⟩
theorem ok_read (D : DefK K mg "_law_read" s_law_read) (T : Txt K mg C) (I : ExnQ K mg "ParseError" CP "ParseError.__init__" st "line") (S : TstP K mg CP CG) (G_law_ends : Cal P w K mg base CX0 3 "_law_ends" (spEnds C))
    (G_parsed : Cmt P w K mg base (L2.CX P w) 6 C mc "parsed" (spParsed K C CP)) : Cal P w K mg base CX0 8 "_law_read" (spRead K CP) := by
  refine D.cal sc_law_read (fun _ _ _ _ _ _ us hl => match us, hl with | [_], _ => rfl) (fun vs H Q E h => ?_) fun f cdv A outer s H vs Q E hr h => ?_
  · obtain ⟨y, rfl, _⟩ := h; rfl
  · obtain ⟨y, rfl, h⟩ := h
    have gGap := S.gGap
    refine ⟨_, (pss_one (ps_try (.named (i := 1) rfl rfl ⟨rfl, by decide, .inl I.mg_⟩ (fun a oe cls d pn hz hf => pss_one (ps_ret (pe_ifExp (PW.pt (pw_and (pt_cmpR op_eq (pe_xf I.xk.xf I.no hz hf (pv 1)) pe_int (nomark _)) (pw_and1 (pt_val (pe_callB (call_isX I.xk hz hf) (by rfl) T.b_isinstance (by decide +kernel) (pa_cons (pv 1) (pa_cons (pe_glob (v := .ref CG) rfl gGap rfl) pa_nil))))))) pe_non pe_str))) .cut) rfl rfl sc_law_read.nd takes0 (fun W pn xe tk _ => pss_one (ps_ret (pe_c G_law_ends hr (by decide) rfl (pa_cons (pe_cmS G_parsed tk hr (by decide) (pe_glob (v := .ref C) rfl T.cRange rfl) (pa_cons (pv 0) pa_nil)) pa_nil)))))), ?_⟩
    have back : ∀ H', Same H H' → (∀ H2, Same H H2 → Q .non H2) → Raised CP H' (fun cls d H2 => ∃ b, PySem.W.exmOne K cls (Value.ref CP) = some b ∧ (b = true → ∀ a, H2 a = none →
        tRet (tIf (tAnd (tTest (tOp rEq (tXf a cls d CP "line" (tVar 1)) (tC (.int 0)))) (tB (tCB (rIsX K cls CP a d) (tCons (tVar 1) (tCons (tC (V.ref CG)) tNil))))) (tC .non) (tC (.str "other")))
          (gone 1 { nx := fun x H' => Q V.non H', rt := Q }) (List.set (L2.start ["text", "e"] [y]) 1 (some (V.ref a))) H2) ∧ (b = false → False)) := by
      intro H' sm q d nd
      have ed : upd H' d (.xd [(("line" : Str), V.int 0)]) d = some (.xd [(("line" : Str), V.int 0)]) := upd_same
      refine ⟨true, I.te, fun _ a na => ?_, fun z => nomatch z⟩
      refine ⟨_, rfl, rfl, rfl, d, _, _, rfl, ed, rfl, rfl, _, rfl, iteT ?_⟩
      refine ⟨_, rfl, .ref CG, .ref CG, true, d, _, rfl, rfl, rfl, ed, fun _ z => z, S.kG, _, rfl, iteT ?_⟩
      exact q _ (same_new' sm nd)
    rcases h with ⟨z, rfl, pl, k⟩ | ⟨t, ty, kt, k⟩
    · refine ⟨rfl, _, rfl, _, rfl, .inl ⟨z, rfl, pl, fun r e x H1 nx sm R => ⟨x, r, rfl, R, readW_ok e, fun v H2 s2 rv => k _ _ (sm.trans s2) ?_⟩, fun e H' sm => back H' sm fun H2 s2 => k _ _ s2 ?_⟩⟩
      · unfold dueRes
        rw [e]; exact rv
      · unfold dueRes
        rw [e]; rfl
    · exact ⟨rfl, _, rfl, _, rfl, .inr ⟨t, ty, kt, back H (Same.refl _) fun H2 s2 => k _ _ s2 rfl⟩⟩
end

end K04

namespace K04
open PySem PySem.Spec PyProof.Rows L2 Jg
local macro_rules | `(tactic| walk_at "rd1") => `(tactic| (first
  | refine ⟨_, rfl, ?_⟩
  | refine ⟨_, _, rfl, rfl, ?_⟩
  | refine ⟨_, _, rfl, ?_⟩
  | refine ⟨rfl, ?_⟩
  | (refine ⟨show (0 : Int) < _ by omega, ?_⟩)
  | (refine ⟨Or.inl ⟨by omega, by omega⟩, ?_⟩)
  | (refine ⟨Or.inr ⟨by omega, by omega⟩, ?_⟩)
  | (refine ⟨(⟨by decide, by decide, by decide⟩ : CPow _ _), ?_⟩)
  | refine Or.inl ⟨_, rfl, ?_⟩
  | refine Or.inr ⟨_, rfl, ?_⟩
  | fail "rd"))
local macro_rules | `(tactic| walk_at "rd") => `(tactic| repeat' walk_at "rd1")


open TL (tl numL)
open NumText (AllDigits digitsVal)
/-! ### numbers as str writes them -/
theorem tS_cases (i : Int) : (0 ≤ i ∧ tl (tS i) = numL i.natAbs) ∨ (i < 0 ∧ tl (tS i) = 45 :: numL i.natAbs) := by
  rcases Int.lt_or_le i 0 with h | h
  · right
    refine ⟨h, ?_⟩
    have z := tl_neg i.natAbs (by omega)
    have e : -((i.natAbs : Nat) : Int) = i := by omega
    rw [e] at z
    exact z
  · left
    refine ⟨h, ?_⟩
    have z := TL.tl_num i.natAbs
    have e : ((i.natAbs : Nat) : Int) = i := by omega
    rw [e] at z
    exact z
theorem fg_num (n : Nat) : fg (numL n) = numL n := by
  rcases fg_cases (numL n) with ⟨r, e, _⟩ | ⟨_, f⟩
  · exfalso
    have h : (45 : Nat) ∉ numL n := TL.numL_free (.inl (by decide))
    rw [e] at h
    exact h (by simp)
  · exact f
theorem fg_tS (i : Int) : fg (tl (tS i)) = numL i.natAbs := by
  rcases tS_cases i with ⟨_, e⟩ | ⟨_, e⟩
  · rw [e, fg_num]
  · rw [e, fg45]
theorem canon_tS {i : Int} (b : Bnd i) : canonB (tl (tS i)) = true := by
  have hB := B_eq
  have b1 : -B < i := b.1
  have b2 : i < B := b.2
  unfold canonB
  rw [fg_tS]
  have h1 : (numL i.natAbs).all isD = true := all_isD.mpr (TL.numL_digits _)
  have ne := TL.numL_ne i.natAbs
  have h2 : 1 ≤ (numL i.natAbs).length := by
    cases e : numL i.natAbs with
    | nil => exact absurd e ne
    | cons c r => simp
  have h3 : (numL i.natAbs).length ≤ 60 := TL.numL_len (by decide) (by
    have e : (10 : Nat) ^ 60 = 1000000000000000000000000000000000000000000000000000000000000 := by decide +kernel
    rw [e]; omega)
  have h4 : (!((numL i.natAbs).head? == some 48) || tl (tS i) == [48]) = true := by
    by_cases k : (numL i.natAbs).head? = some 48
    · have z := numL_head _ k
      have z2 : i.natAbs = 0 := TL.numL_inj (z.trans numL_zero.symm)
      have z3 : i = 0 := by omega
      rw [z3]
      have e : tl (tS 0) = [48] := by
        rcases tS_cases 0 with ⟨_, e⟩ | ⟨e, _⟩
        · rw [e]; exact numL_zero
        · exact absurd e (by decide)
      rw [e]
      simp
    · rw [Bool.or_eq_true]
      left
      rw [Bool.not_eq_true', beq_eq_false_iff_ne]
      exact k
  rw [h1, decide_eq_true h2, decide_eq_true h3, h4]; rfl
theorem val_tS (i : Int) : valL (tl (tS i)) = i := by
  unfold valL
  rw [fg_tS, TL.numL_val]
  rcases tS_cases i with ⟨h, e⟩ | ⟨h, e⟩
  · rw [e]
    have f := fg_num i.natAbs
    have n45 : (numL i.natAbs).head? ≠ some 45 := fun z => by
      have h2 : (45 : Nat) ∉ numL i.natAbs := TL.numL_free (.inl (by decide))
      cases e2 : numL i.natAbs with
      | nil => rw [e2] at z; cases z
      | cons c r =>
        rw [e2] at z h2
        exact h2 (by rw [Option.some.inj z]; simp)
    rw [if_neg n45]; omega
  · rw [e, if_pos (show (45 :: numL i.natAbs).head? = some 45 from rfl)]; omega
theorem free_tS (i : Int) : (32 : Nat) ∉ tl (tS i) := by
  have h : (32 : Nat) ∉ numL i.natAbs := TL.numL_free (.inl (by decide))
  rcases tS_cases i with ⟨_, e⟩ | ⟨_, e⟩
  · rw [e]; exact h
  · rw [e]
    intro z
    rcases List.mem_cons.mp z with k | k
    · omega
    · exact h k
theorem as_tS (i : Int) : AS (tS i) := by
  intro c hc
  have h : ∀ d ∈ numL i.natAbs, d < 128 := fun d hd => by have := TL.numL_digits _ d hd; omega
  rcases tS_cases i with ⟨_, e⟩ | ⟨_, e⟩
  · rw [e] at hc; exact h c hc
  · rw [e] at hc
    rcases List.mem_cons.mp hc with k | k
    · omega
    · exact h c k
theorem as_app {a b : Str} (h1 : AS a) (h2 : AS b) : AS (a ++ b) := fun c hc => by
  have e : tl (a ++ b) = tl a ++ tl b := by show (a ++ b).cps.toList = _; rw [Str.cps_append, Array.toList_append]
  rw [e, List.mem_append] at hc
  exact hc.elim (h1 c) (h2 c)
theorem as_lit {z : Str} (h : (z.cps.toList.all fun c => decide (c < 128)) = true) : AS z := fun c hc => of_decide_eq_true (List.all_eq_true.mp h c hc)
theorem split2 {a b : Str} (h1 : (32 : Nat) ∉ tl a) (h2 : (32 : Nat) ∉ tl b) : wordsOf (a ++ " " ++ b) = [a, b] := by
  have e32 : tl (Str.ofString " ") = [32] := by decide +kernel
  have key := TL.split_spl (a ++ " " ++ b) (Str.ofString " ") (by rw [e32]; simp) (TL.kind_ok (by decide +kernel))
  have e : tl (a ++ Str.ofString " " ++ b) = tl a ++ ([32] ++ tl b) := by
    show (a ++ Str.ofString " " ++ b).cps.toList = _
    rw [Str.cps_append, Array.toList_append, Str.cps_append, Array.toList_append, List.append_assoc]
    show tl a ++ (tl (Str.ofString " ") ++ tl b) = _
    rw [e32]
  rw [e32, e, TL.spl_part1 h1, TL.spl_last1 h2, List.nil_append, List.nil_append] at key
  show PySem.Txt.split (a ++ " " ++ b) (Str.ofString " ") = [a, b]
  revert key
  generalize PySem.Txt.split (a ++ " " ++ b) (Str.ofString " ") = ws
  intro key
  match ws with
  | [] => rw [List.map_nil] at key; exact nomatch key
  | [_] => rw [List.map_cons, List.map_nil] at key; exact absurd (List.cons.inj key).2 (by simp)
  | _ :: _ :: _ :: _ =>
    rw [List.map_cons, List.map_cons, List.map_cons] at key
    exact absurd (List.cons.inj (List.cons.inj key).2).2 (by simp)
  | [x, y] =>
    rw [List.map_cons, List.map_cons, List.map_nil] at key
    have k1 := (List.cons.inj key).1
    have k2 := (List.cons.inj (List.cons.inj key).2).1
    rw [tl_inj k1, tl_inj k2]
theorem has32 {a b : Str} : a ++ " " ++ b ≠ "empty" := fun h => by
  have k : (32 : Nat) ∈ tl (a ++ Str.ofString " " ++ b) := by
    show 32 ∈ (a ++ Str.ofString " " ++ b).cps.toList
    rw [Str.cps_append, Array.toList_append, Str.cps_append, Array.toList_append]
    exact List.mem_append_left _ (List.mem_append_right _ (by decide +kernel))
  have h' : a ++ Str.ofString " " ++ b = Str.ofString "empty" := h
  rw [h'] at k
  exact absurd k (by decide +kernel)
/-- what is written is read -/
theorem read_text {r : Int × Int} (ok : RngOk r) : readW (strR r) = some r ∧ Pln (strR r) ∧ (strR r).length ≤ 200 ∧ 1 ≤ (strR r).length := by
  have hB := B_eq
  unfold strR
  rcases ok with rfl | ⟨b1, h1, h2⟩
  · rw [if_pos (by show -B - 1 < -B; omega)]
    exact ⟨if_pos rfl, ⟨by decide, as_lit (by decide +kernel)⟩, by decide, by decide⟩
  · rw [if_neg (by omega)]
    have l1 := big_len (bnd61 b1)
    by_cases c : r.2 = B
    · rw [if_pos c]
      have e : tS r.1 ++ " -" = tS r.1 ++ " " ++ "-" := by
        rw [Str.append_assoc]
        congr 1
      have sp2 : (Str.ofString " -").length = 2 := by decide
      refine ⟨?_, ⟨?_, as_app (as_tS _) (as_lit (by decide +kernel))⟩, ?_, ?_⟩
      · rw [e]
        have d32 : (32 : Nat) ∉ tl (Str.ofString "-") := by decide +kernel
        have w := split2 (a := tS r.1) (b := "-") (free_tS _) d32
        unfold readW
        rw [if_neg has32, w]
        show (if canonB (tl (tS r.1)) = true then (if (Str.ofString "-") = "-" then some (valL (tl (tS r.1)), B) else _) else none) = _
        rw [if_pos (canon_tS b1), if_pos rfl, val_tS, ← c]
      · rw [Str.length_append]
        show _ + (Str.ofString " -").length ≤ _
        omega
      · rw [Str.length_append]
        show _ + (Str.ofString " -").length ≤ _
        omega
      · rw [Str.length_append]
        show 1 ≤ _ + (Str.ofString " -").length
        omega
    · rw [if_neg c]
      have b2 : Bnd r.2 := ⟨by have : -B < r.1 := b1.1; omega, by omega⟩
      have l2 := big_len (bnd61 b2)
      have sp1 : (Str.ofString " ").length = 1 := by decide
      have ln : (tS r.1 ++ " " ++ tS r.2).length = (tS r.1).length + 1 + (tS r.2).length := by
        rw [Str.length_append, Str.length_append]
        show _ + (Str.ofString " ").length + _ = _
        rw [sp1]
      refine ⟨?_, ⟨?_, as_app (as_app (as_tS _) (as_lit (by decide +kernel))) (as_tS _)⟩, ?_, ?_⟩
      · have w := split2 (a := tS r.1) (b := tS r.2) (free_tS _) (free_tS _)
        unfold readW
        rw [if_neg has32, w]
        show (if canonB (tl (tS r.1)) = true then (if tS r.2 = "-" then some (valL (tl (tS r.1)), B) else if canonB (tl (tS r.2)) = true ∧ valL (tl (tS r.1)) ≤ valL (tl (tS r.2)) then some (valL (tl (tS r.1)), valL (tl (tS r.2))) else none) else none) = _
        have nd : tS r.2 ≠ "-" := fun q => by
          have z := canon_tS b2
          rw [q] at z
          exact absurd z (by decide +kernel)
        rw [if_pos (canon_tS b1), if_neg nd, val_tS, val_tS, if_pos ⟨canon_tS b2, h1⟩]
      · omega
      · omega
      · omega

end K04

namespace K04
open PySem PySem.Spec PyProof.Rows L2 Jg
local macro_rules | `(tactic| walk_at "rd1") => `(tactic| (first
  | refine ⟨_, rfl, ?_⟩
  | refine ⟨_, _, rfl, rfl, ?_⟩
  | refine ⟨_, _, rfl, ?_⟩
  | refine ⟨rfl, ?_⟩
  | (refine ⟨show (0 : Int) < _ by omega, ?_⟩)
  | (refine ⟨Or.inl ⟨by omega, by omega⟩, ?_⟩)
  | (refine ⟨Or.inr ⟨by omega, by omega⟩, ?_⟩)
  | (refine ⟨(⟨by decide, by decide, by decide⟩ : CPow _ _), ?_⟩)
  | refine Or.inl ⟨_, rfl, ?_⟩
  | refine Or.inr ⟨_, rfl, ?_⟩
  | fail "rd"))
local macro_rules | `(tactic| walk_at "rd") => `(tactic| repeat' walk_at "rd1")


theorem p57 : (10 : Int) ^ (57 : Int).toNat = 1000000000000000000000000000000000000000000000000000000000 := by decide +kernel
theorem p58 : (10 : Int) ^ (58 : Int).toNat = 10000000000000000000000000000000000000000000000000000000000 := by decide +kernel
def SameB (p : Addr) (H H' : Hp) : Prop := ∀ q o, H q = some o → q ≠ p → H' q = some o
theorem SameB.refl (p : Addr) (H : Hp) : SameB p H H := fun _ _ e _ => e
theorem SameB.trans {p : Addr} {H H1 H2 : Hp} (a : SameB p H H1) (b : SameB p H1 H2) : SameB p H H2 := fun q o e n => b q o (a q o e n) n
theorem SameB.of {p : Addr} {H H1 : Hp} (a : Same H H1) : SameB p H H1 := fun q o e _ => a q o e
theorem SameB.new {p l : Addr} {H H1 : Hp} {o : HO} (a : SameB p H H1) (h : H1 l = none) : SameB p H (upd H1 l o) := fun q u e n => by
  have z := a q u e n
  rw [upd_ne (ne_of_none z h)]
  exact z
theorem SameB.mut {p : Addr} {H H1 : Hp} {o : HO} (a : SameB p H H1) : SameB p H (upd H1 p o) := fun q u e n => by
  rw [upd_ne n]
  exact a q u e n
theorem SameB.out {p : Addr} {H H1 H2 : Hp} (a : Same H H1) (b : SameB p H1 H2) (n : H p = none) : Same H H2 := fun q o e => b q o (a q o e) (ne_of_none e n)
theorem SameB.free {p l : Addr} {H H' : Hp} (s : SameB p H H') (n : H' l = none) (np : l ≠ p) : H l = none := by
  cases e : H l with
  | none => rfl
  | some o =>
    have z := s l o e np
    rw [n] at z; cases z
def StA (H : Hp) (p : Addr) : Prop := ∃ a b, H p = some (.lst [.int a, .int b]) ∧ 0 ≤ a
theorem StA.ne {H : Hp} {p l : Addr} (h : StA H p) (n : H l = none) : l ≠ p := fun z => by
  obtain ⟨a, b, e, _⟩ := h
  rw [z, e] at n
  cases n
theorem StA.new {H : Hp} {p l : Addr} {o : HO} (h : StA H p) (n : H l = none) : StA (upd H l o) p := by
  obtain ⟨a, b, e, z⟩ := h
  exact ⟨a, b, by rw [upd_ne (ne_of_none e n)]; exact e, z⟩
def E58 : Int := 10000000000000000000000000000000000000000000000000000000000
def DrOk (f : Int) (l : Option Int) : Prop := -E58 ≤ f ∧ f ≤ E58 ∧ ∀ i, l = some i → -(2 * E58) ≤ i ∧ i ≤ 2 * E58
def spDrawn : Sp := fun vs H Q _ => ∃ p, vs = [.ref p] ∧ StA H p ∧ ∀ f l q H', DrOk f l → H q = none → q ≠ p → H' q = some (.tup [.int f, oV l]) → StA H' p → SameB p H H' → Q (.ref q) H'
/-- a draw below n -/
theorem use_draw {H : Hp} {p : Addr} {n : Int} {Q : VK} (st : StA H p) (h1 : 0 < n) (h2 : n.natAbs < 2 ^ 300) (k : ∀ v H', 0 ≤ v → v < n → StA H' p → SameB p H H' → Q (.int v) H') : spDraw [.ref p, .int n] H Q E0 := by
  obtain ⟨a, b, e, ha⟩ := st
  exact ⟨p, a, b, n, rfl, e, ha, h1, h2, fun v a' b' v0 v1 h => k v _ v0 v1 ⟨a', b', upd_same, h⟩ (SameB.refl _ _).mut⟩
theorem use_choose {K : PySem.W.Frag} {H : Hp} {p l : Addr} {xs : List V} {Q : VK} (st : StA H p) (hl : SqL K H l xs) (n : l ≠ p) (h1 : 0 < xs.length) (h2 : xs.length < 1000) (k : ∀ v H', v ∈ xs → StA H' p → SameB p H H' → Q v H') : spChoose K [.ref p, .ref l] H Q E0 := by
  obtain ⟨a, b, e, ha⟩ := st
  exact ⟨p, l, a, b, xs, rfl, e, ha, hl, n, h1, h2, fun i v a' b' e h => k v _ (List.mem_of_getElem? e) ⟨a', b', upd_same, h⟩ (SameB.refl _ _).mut⟩
theorem i300 {n : Int} (h0 : 0 ≤ n) (h : n ≤ E58) : n.natAbs < 2 ^ 300 := by
  have e : (2 : Nat) ^ 300 = 2037035976334486086268445688409378161051468393665936250636140449354381299763336706183397376 := by decide +kernel
  rw [e]
  unfold E58 at h
  omega
section
variable {P : Program} {w : World} {K : PySem.W.Frag} {mg : Str → Option Value} {base : Heap} {C : Addr}
abbrev s_law_drawn : Stmt := top 21
theorem sc_law_drawn : FnScope ["stream", "one", "way"] ["stream"] (defScope s_law_drawn) := ⟨rfl, rfl, rfl, by decide +kernel, rfl, by decide +kernel, by decide +kernel⟩
theorem ok_drawn (D : DefK K mg "_law_drawn" s_law_drawn) (T : Txt K mg C) (G_law_draw : Cal P w K mg base CX0 1 "_law_draw" spDraw) (G_law_choose : Cal P w K mg base CX0 2 "_law_choose" (spChoose K)) : Cal P w K mg base CX0 3 "_law_drawn" spDrawn := by
  refine D.cal sc_law_drawn (fun _ _ _ _ _ _ us hl => match us, hl with | [_], _ => rfl) (fun vs H Q E h => ?_) fun f cdv A outer s H vs Q E hr h => ?_
  · obtain ⟨p, rfl, _⟩ := h; rfl
  · obtain ⟨p, rfl, st, k⟩ := h
    refine ⟨_, (pss_cons (ps_set (i := 1) sc_law_drawn.nd rfl (Or.inl rfl) (pe_op op_sub (pe_c G_law_draw hr (by decide) rfl (pa_cons (pv 0) (pa_cons (pe_c G_law_choose hr (by decide) rfl (pa_cons (pv 0) (pa_cons (pe_lst (pa_cons pe_int (pa_cons (pe_op op_pow pe_int pe_int) pa_nil))) pa_nil))) pa_nil))) (pe_c G_law_choose hr (by decide) rfl (pa_cons (pv 0) (pa_cons (pe_lst (pa_cons pe_int (pa_cons pe_int (pa_cons (pe_op op_pow pe_int pe_int) pa_nil)))) pa_nil)))))
      (pss_cons (ps_set (i := 2) sc_law_drawn.nd rfl (Or.inl rfl) (pe_c G_law_draw hr (by decide) rfl (pa_cons (pv 0) (pa_cons pe_int pa_nil))))
      (pss_cons (ps_if (pt_cmpR op_eq (pv 2) pe_int (nomark _)) (pss_one (ps_ret (pe_tup (pa_cons (pv 1) (pa_cons pe_non pa_nil))))) pss_nil)
      (pss_one (ps_ret (pe_tup (pa_cons (pv 1) (pa_cons (pe_op op_sub (pe_op op_add (pv 1) (pe_c G_law_draw hr (by decide) rfl (pa_cons (pv 0) (pa_cons (pe_c G_law_choose hr (by decide) rfl (pa_cons (pv 0) (pa_cons (pe_lst (pa_cons pe_int (pa_cons (pe_op op_pow pe_int pe_int) pa_nil))) pa_nil))) pa_nil)))) (pe_callTy call_int1 (by rfl) T.b_int (by decide +kernel) (pa_cons (pe_cmpR op_eq (pv 2) pe_int (nomark _)) pa_nil))) pa_nil)))))))), ?_⟩
    walk_at "rd"
    refine ⟨by show 2 ≤ sizeLine; decide, fun l1 n1 => use_choose (st.new n1) (SqL.of upd_same) (st.ne n1) (by decide) (by decide) fun v H1 hv st1 s1 => ?_⟩
    obtain ⟨m, rfl, m0, m1⟩ : ∃ m, v = .int m ∧ 0 < m ∧ m ≤ E58 := by
      simp only [List.mem_cons, List.not_mem_nil, or_false] at hv
      rcases hv with rfl | rfl
      · exact ⟨_, rfl, by decide, by decide⟩
      · exact ⟨_, rfl, by rw [p58]; decide, by rw [p58]; decide⟩
    have sb1 : SameB p H H1 := ((SameB.refl p H).new n1).trans s1
    refine use_draw st1 m0 (i300 (by omega) m1) fun d H2 d0 d1 st2 s2 => ?_
    have sb2 := sb1.trans s2
    walk_at "rd"
    refine ⟨by show 3 ≤ sizeLine; decide, fun l2 n2 => ?_⟩
    obtain ⟨a2, b2, e2, ha2⟩ := st2.new (o := .lst [.int 0, .int 2, .int (10 ^ (57 : Int).toNat)]) n2
    refine ⟨p, l2, a2, b2, _, rfl, e2, ha2, SqL.of upd_same, st2.ne n2, by decide, by decide, fun i v a' b' hi h' => ?_⟩
    have hv := List.mem_of_getElem? hi
    have st3 : StA (upd (upd H2 l2 (.lst [.int 0, .int 2, .int (10 ^ (57 : Int).toNat)])) p (.lst [.int a', .int b'])) p := ⟨a', b', upd_same, h'⟩
    have s3 : SameB p (upd H2 l2 (.lst [.int 0, .int 2, .int (10 ^ (57 : Int).toNat)])) (upd (upd H2 l2 (.lst [.int 0, .int 2, .int (10 ^ (57 : Int).toNat)])) p (.lst [.int a', .int b'])) := (SameB.refl _ _).mut
    generalize upd (upd H2 l2 (.lst [.int 0, .int 2, .int (10 ^ (57 : Int).toNat)])) p (.lst [.int a', .int b']) = H3 at *
    obtain ⟨c, rfl, c0, c1⟩ : ∃ c, v = .int c ∧ 0 ≤ c ∧ c ≤ E58 := by
      simp only [List.mem_cons, List.not_mem_nil, or_false] at hv
      rcases hv with rfl | rfl | rfl
      · exact ⟨_, rfl, by decide, by decide⟩
      · exact ⟨_, rfl, by decide, by decide⟩
      · exact ⟨_, rfl, by rw [p57]; decide, by rw [p57]; decide⟩
    have sb3 := (sb2.new n2).trans s3
    walk_at "rd"
    obtain ⟨a4, b4, e4, ha4⟩ := st3
    refine ⟨p, a4, b4, 5, rfl, e4, ha4, by decide, by decide, fun y a' b' y0 y1 h' => ?_⟩
    have st4 : StA (upd H3 p (.lst [.int a', .int b'])) p := ⟨a', b', upd_same, h'⟩
    have s4 : SameB p H3 (upd H3 p (.lst [.int a', .int b'])) := (SameB.refl _ _).mut
    generalize upd H3 p (.lst [.int a', .int b']) = H4 at *
    have sb4 := sb3.trans s4
    refine ⟨_, rfl, rfl, _, rfl, ?_⟩
    rw [ne_dec]
    by_cases cy : y = 0
    · rw [decide_eq_true cy]
      refine iteT ⟨_, rfl, by show 2 ≤ sizeLine; decide, fun q nq => ?_⟩
      exact k (d - c) none q _ ⟨by omega, by omega, fun i h => nomatch h⟩ (sb4.free nq (st4.ne nq)) (st4.ne nq) upd_same (st4.new nq) (sb4.new nq)
    · rw [decide_eq_false cy]
      refine iteF ?_
      walk_at "rd"
      refine ⟨by show 2 ≤ sizeLine; decide, fun l3 n3 => ?_⟩
      obtain ⟨a4, b4, e4, ha4⟩ := st4.new (o := .lst [.int 4, .int (10 ^ (57 : Int).toNat)]) n3
      refine ⟨p, l3, a4, b4, _, rfl, e4, ha4, SqL.of upd_same, st4.ne n3, by decide, by decide, fun i v a' b' hi h' => ?_⟩
      have hv := List.mem_of_getElem? hi
      have st5 : StA (upd (upd H4 l3 (.lst [.int 4, .int (10 ^ (57 : Int).toNat)])) p (.lst [.int a', .int b'])) p := ⟨a', b', upd_same, h'⟩
      have s5 : SameB p (upd H4 l3 (.lst [.int 4, .int (10 ^ (57 : Int).toNat)])) (upd (upd H4 l3 (.lst [.int 4, .int (10 ^ (57 : Int).toNat)])) p (.lst [.int a', .int b'])) := (SameB.refl _ _).mut
      generalize upd (upd H4 l3 (.lst [.int 4, .int (10 ^ (57 : Int).toNat)])) p (.lst [.int a', .int b']) = H5 at *
      obtain ⟨e, rfl, e0, e1⟩ : ∃ e, v = .int e ∧ 0 < e ∧ e ≤ 1000000000000000000000000000000000000000000000000000000000 := by
        simp only [List.mem_cons, List.not_mem_nil, or_false] at hv
        rcases hv with rfl | rfl
        · exact ⟨_, rfl, by decide, by decide⟩
        · exact ⟨_, rfl, by rw [p57]; decide, by rw [p57]; decide⟩
      have sb5 := (sb4.new n3).trans s5
      have eE : E58 = 10000000000000000000000000000000000000000000000000000000000 := rfl
      obtain ⟨a6, b6, e6, ha6⟩ := st5
      refine ⟨p, a6, b6, e, rfl, e6, ha6, e0, i300 (by omega) (by omega), fun z a' b' z0 z1 h' => ?_⟩
      have st6 : StA (upd H5 p (.lst [.int a', .int b'])) p := ⟨a', b', upd_same, h'⟩
      have s6 : SameB p H5 (upd H5 p (.lst [.int a', .int b'])) := (SameB.refl _ _).mut
      generalize upd H5 p (.lst [.int a', .int b']) = H6 at *
      have sb6 := sb5.trans s6
      refine ⟨_, _, rfl, rfl, _, rfl, rfl, .inr ⟨_, rfl, _, _, rfl, rfl, ?_⟩⟩
      rw [ne_dec]
      refine ⟨by show 2 ≤ sizeLine; decide, fun q nq => ?_⟩
      refine k (d - c) (some (d - c + z - (if decide (y = 1) = true then 1 else 0))) q _ ⟨by omega, by omega, fun i h => ?_⟩ (sb6.free nq (st6.ne nq)) (st6.ne nq) upd_same (st6.new nq) (sb6.new nq)
      cases h
      split <;> omega
end

end K04

namespace K04
open PySem PySem.Spec PyProof.Rows L2 Jg
local macro_rules | `(tactic| walk_at "rd1") => `(tactic| (first
  | refine ⟨_, rfl, ?_⟩
  | refine ⟨_, _, rfl, rfl, ?_⟩
  | refine ⟨_, _, rfl, ?_⟩
  | refine ⟨rfl, ?_⟩
  | (refine ⟨show (0 : Int) < _ by omega, ?_⟩)
  | (refine ⟨Or.inl ⟨by omega, by omega⟩, ?_⟩)
  | (refine ⟨Or.inr ⟨by omega, by omega⟩, ?_⟩)
  | (refine ⟨(⟨by decide, by decide, by decide⟩ : CPow _ _), ?_⟩)
  | refine Or.inl ⟨_, rfl, ?_⟩
  | refine Or.inr ⟨_, rfl, ?_⟩
  | fail "rd"))
local macro_rules | `(tactic| walk_at "rd") => `(tactic| repeat' walk_at "rd1")


open TL (tl numL)
def Pk (k : Nat) (z : Str) : Prop := z.length ≤ k ∧ AS z
theorem Pk.pl {k : Nat} {z : Str} (h : Pk k z) (h2 : k ≤ 10000) : Pln z := ⟨Nat.le_trans h.1 h2, h.2⟩
theorem Pk.cut {k : Nat} {z : Str} (h : Pk k z) (lo hi : Option Int) : Pk k (cutS z lo hi) := by
  have e : ∃ a b, tl (cutS z lo hi) = ((tl z).drop a).take b := ⟨_, _, rfl⟩
  obtain ⟨a, b, e⟩ := e
  constructor
  · rw [len_tl', e, List.length_take, List.length_drop]
    have := h.1
    rw [len_tl'] at this
    omega
  · intro c hc
    rw [e] at hc
    exact h.2 c (List.mem_of_mem_drop (List.mem_of_mem_take hc))
theorem Pk.app {j k : Nat} {a b : Str} (h1 : Pk j a) (h2 : Pk k b) : Pk (j + k) (a ++ b) := ⟨by rw [Str.length_append]; have := h1.1; have := h2.1; omega, as_app h1.2 h2.2⟩
theorem dbl_mem {c d : Nat} : ∀ l : List Nat, d ∈ PySem.StrLaws.dbl c l → d ∈ l := by
  intro l
  induction l with
  | nil => exact fun z => z
  | cons a r ih =>
    intro h
    unfold PySem.StrLaws.dbl at h
    split at h
    · rcases List.mem_cons.mp h with e | h
      · rw [e]; simp_all
      · rcases List.mem_cons.mp h with e | h
        · rw [e]; simp_all
        · exact List.mem_cons_of_mem _ (ih h)
    · rcases List.mem_cons.mp h with e | h
      · rw [e]; simp
      · exact List.mem_cons_of_mem _ (ih h)
theorem Pk.rep {k : Nat} {z : Str} (h : Pk k z) : Pk (3 * k + 2) (PySem.Txt.replace z " " "  ") := by
  constructor
  · have z1 := TK.replace_len z " " "  "
    have z2 : (Str.ofString "  ").length = 2 := by decide
    rw [z2] at z1
    have := h.1
    omega
  · intro c hc
    have e := PySem.StrLaws.replace_double z 32
    have e1 : (⟨#[32]⟩ : Str) = Str.ofString " " := rfl
    have e2 : (⟨#[32, 32]⟩ : Str) = Str.ofString "  " := rfl
    rw [e1, e2] at e
    have hc' : c ∈ (PySem.Txt.replace z (Str.ofString " ") (Str.ofString "  ")).cps.toList := hc
    rw [e] at hc'
    exact h.2 c (dbl_mem _ hc')
theorem pk_lit {k : Nat} {z : Str} (h1 : decide (z.length ≤ k) = true) (h : (z.cps.toList.all fun c => decide (c < 128)) = true) : Pk k z := ⟨of_decide_eq_true h1, as_lit h⟩
def spBent : Sp := fun vs H Q _ => ∃ p z, vs = [.ref p, .str z] ∧ StA H p ∧ Pk 200 z ∧ 1 ≤ z.length ∧ ∀ (ws : List Str) l H', (∀ x ∈ ws, Pln x) → ws.length ≤ 20 → H l = none → l ≠ p → H' l = some (.lst (ws.map V.str)) → StA H' p → SameB p H H' → Q (.ref l) H'
section
variable {P : Program} {w : World} {K : PySem.W.Frag} {mg : Str → Option Value} {base : Heap} {C : Addr}
abbrev s_law_bent : Stmt := top 29
theorem sc_law_bent : FnScope ["stream", "text", "some", "at", "sign"] ["stream", "text"] (defScope s_law_bent) := ⟨rfl, rfl, rfl, by decide +kernel, rfl, by decide +kernel, by decide +kernel⟩
theorem ok_bent (D : DefK K mg "_law_bent" s_law_bent) (T : Txt K mg C) (bL : mg "list" = none) (G_law_draw : Cal P w K mg base CX0 1 "_law_draw" spDraw) (G_law_choose : Cal P w K mg base CX0 2 "_law_choose" (spChoose K)) : Cal P w K mg base CX0 3 "_law_bent" spBent := by
  refine D.cal sc_law_bent (fun _ _ _ _ _ _ us hl => match us, hl with | [_, _], _ => rfl) (fun vs H Q E h => ?_) fun f cdv A outer s H vs Q E hr h => ?_
  · obtain ⟨p, z, rfl, _⟩ := h; rfl
  · obtain ⟨p, z, rfl, st, pk, z1, k⟩ := h
    have hz := pk.1
    have szl := sizeLine_eq
    refine ⟨_, (pss_cons (ps_par (i := 3) (j := 4) (by rfl) sc_law_bent.nd rfl rfl (by decide) rfl rfl (pa_cons (pe_c G_law_draw hr (by decide) rfl (pa_cons (pv 0) (pa_cons (pe_callB call_len_str (by rfl) T.b_len (by decide +kernel) (pa_cons (pv 1) pa_nil)) pa_nil))) (pa_cons (pe_c G_law_choose hr (by decide) rfl (pa_cons (pv 0) (pa_cons (pe_callTy (call_listS rfl) (by rfl) bL (by decide +kernel) (pa_cons pe_str pa_nil)) pa_nil))) pa_nil)) (by rfl))
      (pss_cons (ps_set (i := 2) sc_law_bent.nd rfl (Or.inl rfl) (pe_lst (pa_cons (pe_op op_add_str (pe_slice sl_str (pv 1) po_none (po_some (pv 3))) (pe_slice sl_str (pv 1) (po_some (pe_op op_add (pv 3) pe_int)) po_none)) (pa_cons (pe_op op_add_str (pe_op op_add_str (pe_slice sl_str (pv 1) po_none (po_some (pv 3))) (pv 4)) (pe_slice sl_str (pv 1) (po_some (pv 3)) po_none)) (pa_cons (pe_op op_add_str (pe_op op_add_str (pe_slice sl_str (pv 1) po_none (po_some (pv 3))) (pv 4)) (pe_slice sl_str (pv 1) (po_some (pe_op op_add (pv 3) pe_int)) po_none)) pa_nil)))))
      (pss_one (ps_ret (pe_op op_cat (pv 2) (pe_lst (pa_tok (pe1_op op_add_str (pv 1)) (pat_cons (pet_of (pe_op op_add_str pe_str (pv 1))) (pat_cons (pet_of (pe_op op_add_str (pv 1) pe_str)) (pat_cons (pet_of (pe_op op_add_str (pv 1) pe_str)) (pat_cons (pet_repl (pv 1) (by decide +kernel)) (pat_cons (pet_of (pe_slice sl_str (pv 1) (po_some (pv 3)) po_none)) pat_nil)))))))))))), ?_⟩
    refine ⟨_, rfl, _, rfl, z, rfl, by omega, ?_⟩
    obtain ⟨a0, b0, e0, ha0⟩ := st
    refine ⟨p, a0, b0, z.length, rfl, e0, ha0, by omega, i1000 (by omega) (by omega), fun d a1 b1 d0 d1 h1 => ?_⟩
    have st1 : StA (upd H p (.lst [.int a1, .int b1])) p := ⟨a1, b1, upd_same, h1⟩
    have s1 : SameB p H (upd H p (.lst [.int a1, .int b1])) := (SameB.refl _ _).mut
    generalize upd H p (.lst [.int a1, .int b1]) = H1 at *
    refine ⟨_, rfl, _, rfl, by decide, fun l1 n1 => ?_⟩
    obtain ⟨a2, b2, e2, ha2⟩ := st1.new (o := .lst ((Str.ofString "_ -0123456789eE+.\n").cps.toList.map fun c => V.str ⟨#[c]⟩)) n1
    refine ⟨p, l1, a2, b2, _, rfl, e2, ha2, SqL.of upd_same, st1.ne n1, by decide, by decide, fun i v a' b' hi h' => ?_⟩
    have hv := List.mem_of_getElem? hi
    obtain ⟨sg, rfl, psg⟩ : ∃ sg, v = .str sg ∧ Pk 1 sg := by
      obtain ⟨c, hc, e⟩ := List.mem_map.mp hv
      refine ⟨_, e.symm, Nat.le_refl _, fun d hd => ?_⟩
      have e2 : d = c := by simpa [tl] using hd
      have lit : ∀ c ∈ (Str.ofString "_ -0123456789eE+.\n").cps.toList, c < 128 := by decide +kernel
      rw [e2]; exact lit c hc
    have st3 : StA (upd (upd H1 l1 (.lst ((Str.ofString "_ -0123456789eE+.\n").cps.toList.map fun c => V.str ⟨#[c]⟩))) p (.lst [.int a', .int b'])) p := ⟨a', b', upd_same, h'⟩
    have s3 : SameB p H (upd (upd H1 l1 (.lst ((Str.ofString "_ -0123456789eE+.\n").cps.toList.map fun c => V.str ⟨#[c]⟩))) p (.lst [.int a', .int b'])) := (s1.new n1).mut
    generalize upd (upd H1 l1 (.lst ((Str.ofString "_ -0123456789eE+.\n").cps.toList.map fun c => V.str ⟨#[c]⟩))) p (.lst [.int a', .int b']) = H3 at *
    refine ⟨_, _, rfl, ?_⟩
    have zs : z.length ≤ sizeLine := by omega
    have pL := pk.cut none (some d)
    have pR := pk.cut (some d) none
    have pR1 := pk.cut (some (d + 1)) none
    have a1 := pL.app pR1
    have a2 := pL.app psg
    have a3 := a2.app pR
    have a4 := a2.app pR1
    have lb : Pk 1 (Str.ofString " ") := pk_lit (by decide) (by decide +kernel)
    have ln : Pk 1 (Str.ofString "\n") := pk_lit (by decide) (by decide +kernel)
    have l1 : Pk 2 (Str.ofString " 1") := pk_lit (by decide) (by decide +kernel)
    have ok : ∀ {k : Nat} {a b : Str}, Pk k (a ++ b) → k ≤ 10000 → a.length + b.length ≤ sizeLine := fun h h2 => by
      have := h.1
      rw [Str.length_append] at this
      omega
    refine ⟨_, rfl, _, rfl, _, rfl, z, rfl, zs, _, rfl, _, rfl, _, _, rfl, rfl, _, rfl, z, rfl, zs, _, _, rfl, rfl, ok a1 (by decide), _, rfl, _, rfl, _, rfl, z, rfl, zs, _, rfl, _, _, rfl, rfl, ok a2 (by decide), _, rfl, _, rfl, _, rfl, z, rfl, zs, _, _, rfl, rfl, ok a3 (by decide), _, rfl, _, rfl, _, rfl, z, rfl, zs, _, rfl, _, _, rfl, rfl, ok a2 (by decide), _, rfl, _, rfl, _, _, rfl, rfl, _, rfl, z, rfl, zs, _, _, rfl, rfl, ok a4 (by decide), by show 3 ≤ sizeLine; omega, fun l2 n2 => ?_⟩
    have e2 : upd H3 l2 (.lst [.str (cutS z none (some d) ++ cutS z (some (d + 1)) none), .str (cutS z none (some d) ++ sg ++ cutS z (some d) none), .str (cutS z none (some d) ++ sg ++ cutS z (some (d + 1)) none)]) l2 = some (.lst [.str (cutS z none (some d) ++ cutS z (some (d + 1)) none), .str (cutS z none (some d) ++ sg ++ cutS z (some d) none), .str (cutS z none (some d) ++ sg ++ cutS z (some (d + 1)) none)]) := upd_same
    have b1 := pk.app lb
    have b2 := lb.app pk
    have b3 := pk.app ln
    have b4 := pk.app l1
    have b5 := pk.rep
    refine ⟨_, rfl, _, rfl, _, _, rfl, rfl, ok b1 (by decide), _, rfl, _, _, rfl, rfl, ok b2 (by decide), _, rfl, _, _, rfl, rfl, ok b3 (by decide), _, rfl, _, _, rfl, rfl, ok b4 (by decide), _, rfl, z, rfl, ?_, _, rfl, _, rfl, _, rfl, z, rfl, zs, by show 6 ≤ sizeLine; omega, fun l3 n3 => ?_⟩
    · show z.length + (z.length + 1) * (Str.ofString "  ").length ≤ _
      have : (Str.ofString "  ").length = 2 := by decide
      rw [this]; omega
    have n23 : l3 ≠ l2 := fun q => by rw [q, upd_same] at n3; cases n3
    refine ⟨l2, l3, _, _, rfl, rfl, by rw [upd_ne n23.symm]; exact e2, upd_same, by show 3 + 6 ≤ sizeLine; omega, fun l4 n4 => ?_⟩
    have st4 := st3.new (o := .lst [.str (cutS z none (some d) ++ cutS z (some (d + 1)) none), .str (cutS z none (some d) ++ sg ++ cutS z (some d) none), .str (cutS z none (some d) ++ sg ++ cutS z (some (d + 1)) none)]) n2
    have st5 := st4.new (o := .lst [.str (z ++ Str.ofString " "), .str (Str.ofString " " ++ z), .str (z ++ Str.ofString "\n"), .str (z ++ Str.ofString " 1"), .str (PySem.Txt.replace z (Str.ofString " ") (Str.ofString "  ")), .str (cutS z (some d) none)]) n3
    have s4 := (s3.new (o := .lst [.str (cutS z none (some d) ++ cutS z (some (d + 1)) none), .str (cutS z none (some d) ++ sg ++ cutS z (some d) none), .str (cutS z none (some d) ++ sg ++ cutS z (some (d + 1)) none)]) n2).new (o := .lst [.str (z ++ Str.ofString " "), .str (Str.ofString " " ++ z), .str (z ++ Str.ofString "\n"), .str (z ++ Str.ofString " 1"), .str (PySem.Txt.replace z (Str.ofString " ") (Str.ofString "  ")), .str (cutS z (some d) none)]) n3
    refine k [cutS z none (some d) ++ cutS z (some (d + 1)) none, cutS z none (some d) ++ sg ++ cutS z (some d) none, cutS z none (some d) ++ sg ++ cutS z (some (d + 1)) none, z ++ Str.ofString " ", Str.ofString " " ++ z, z ++ Str.ofString "\n", z ++ Str.ofString " 1", PySem.Txt.replace z (Str.ofString " ") (Str.ofString "  "), cutS z (some d) none] l4 _ ?_ (by show 9 ≤ 20; decide) (s4.free n4 (st5.ne n4)) (st5.ne n4) upd_same (st5.new n4) (s4.new n4)
    intro x hx
    simp only [List.mem_cons, List.not_mem_nil, or_false] at hx
    rcases hx with rfl | rfl | rfl | rfl | rfl | rfl | rfl | rfl | rfl
    · exact a1.pl (by decide)
    · exact a3.pl (by decide)
    · exact a4.pl (by decide)
    · exact b1.pl (by decide)
    · exact b2.pl (by decide)
    · exact b3.pl (by decide)
    · exact b4.pl (by decide)
    · exact b5.pl (by decide)
    · exact pR.pl (by decide)
end

end K04

namespace K04
open PySem PySem.Spec PyProof.Rows L2 Jg
local macro_rules | `(tactic| walk_at "rd1") => `(tactic| (first
  | refine ⟨_, rfl, ?_⟩
  | refine ⟨_, _, rfl, rfl, ?_⟩
  | refine ⟨_, _, rfl, ?_⟩
  | refine ⟨rfl, ?_⟩
  | (refine ⟨show (0 : Int) < _ by omega, ?_⟩)
  | (refine ⟨Or.inl ⟨by omega, by omega⟩, ?_⟩)
  | (refine ⟨Or.inr ⟨by omega, by omega⟩, ?_⟩)
  | (refine ⟨(⟨by decide, by decide, by decide⟩ : CPow _ _), ?_⟩)
  | refine Or.inl ⟨_, rfl, ?_⟩
  | refine Or.inr ⟨_, rfl, ?_⟩
  | fail "rd"))
local macro_rules | `(tactic| walk_at "rd") => `(tactic| repeat' walk_at "rd1")


/-! ### refused distances -/
/-- a try in a loop: its reading by a name -/
def tTry (tb : WX → TS) (w : Ends → WX) : TS := fun D σ H => tb (w D) D σ H
theorem ps_tryT {X : Cx} {Wout : WX} {body : List Stmt} {h₀ : ExceptHandler} {hds : List ExceptHandler} {w : Ends → WX} {pos : Pos} {tb : WX → TS} (hd : Hds X Wout (h₀ :: hds) w) (hs : X.stack = X.env :: X.outer) (fr : X.env.frame = some X.env.locals) (hN : X.N.Nodup) (tk : Takes X Wout)
    (hb : ∀ (W : WX) (pn : List (Addr × Obj)) (xe : Value → Shared → Prop), Takes (X.tr pn xe) W → PassesOwn (model X.prog X.w) X.A X.env xe → PSs (X.tr pn xe) body (tb W)) :
    PS X (.Try body (h₀ :: hds) [] [] pos) (tTry tb w) := ps_try hd hs fr hN tk hb
structure TstM (K : PySem.W.Frag) (mg : Str → Option Value) (CM CG CI : Addr) : Prop where
  gGap : mg "GapError" = some (.ref CG)
  gI : mg "InvalidRange" = some (.ref CI)
  kG : PySem.W.kitOne K (.ref CM) (.ref CG) = some true
  kI : PySem.W.kitOne K (.ref CM) (.ref CI) = some false
/-- what is no distance: how it is shown, what operators find at its type -/
def OddM (K : PySem.W.Frag) (C : Addr) (H : Hp) (y : V) : Prop := Bad K H y ∧ (∃ tx, PyData.strOk tx = true ∧ ∀ H', Same H H' → Shw K H' y tx) ∧
  ∃ T fa fs, (∀ H', Same H H' → TyX K H' y (.type T)) ∧ NumT T "add" fa ∧ NumT T "sub" fs ∧ LvV y T "add" fa ∧ PySem.W.subIn K (.type T) (.ref C) = some false ∧ PySem.W.subIn K (.ref C) (.type T) = some false
theorem OddM.keep {K : PySem.W.Frag} {C : Addr} {H H' : Hp} {y : V} (h : OddM K C H y) (s : Same H H') : OddM K C H' y := by
  obtain ⟨bad, ⟨tx, o, z⟩, T, fa, fs, ty, r⟩ := h
  exact ⟨bad.keep s, ⟨tx, o, fun H2 s2 => z H2 (s.trans s2)⟩, T, fa, fs, fun H2 s2 => ty H2 (s.trans s2), r⟩
def row3 (x : Str) : List V := [.str x, .bl true, .bl false]
def row3D (x : Str) : PyData := .list [.str x, .bool true, .bool false]
theorem dp_row3 {K : PySem.W.Frag} {H : Hp} {a : Addr} {x : Str} (h : SqL K H a (row3 x)) : Dp K H (.ref a) (row3D x) := .lst h (.cons (.str x) (.cons (.bl _) (.cons (.bl _) .nil)))
theorem eqv3 (x : Str) : PyData.eqv (.list [row3D x, row3D x, row3D x]) (.list [row3D x, row3D x, row3D x]) = true := by simp [PyData.eqv, row3D, PyData.eqvAll]
theorem shp3 {x : Str} (ok : PyData.strOk x = true) : SeqAt.shaped (.list [row3D x, row3D x, row3D x]) = true := by
  have e1 : (PyData.list [row3D x, row3D x, row3D x]).canLay0 = true := by simp [row3D, PyData.canLay0, PyData.canLayAll0, ok]
  have e2 : (PyData.list [row3D x, row3D x, row3D x]).depth ≤ 64 := by first | (simp [row3D, PyData.depth, PyData.depthAll]; done) | (show PyData.depthAll _ + 1 ≤ 64; simp [PyData.depthAll, PyData.depth]; done) | decide
  exact Bool.and_eq_true_iff.mpr ⟨e1, decide_eq_true e2⟩
def spRefused (K : PySem.W.Frag) (C : Addr) : Sp := fun vs H Q _ => ∃ p r y, vs = [.ref p, y] ∧ RAt C H p r ∧ OddM K C H y ∧ ∀ H', Same H H' → Q (.bl true) H'
section
variable {P : Program} {w : World} {K : PySem.W.Frag} {mg : Str → Option Value} {base : Heap} {C CM CG CI f0 : Addr} {st : Stmt}
abbrev s_law_refused : Stmt := top 25
theorem sc_law_refused : FnScope ["one", "odd", "kept", "way", "e"] ["one", "odd"] (defScope s_law_refused) := ⟨rfl, rfl, rfl, by decide +kernel, rfl, by decide +kernel, by decide +kernel⟩
theorem ok_lrefused (D : DefK K mg "_law_refused" s_law_refused) (T : Txt K mg C) (I : ExnQ K mg "InvalidMoment" CM "InvalidMoment.__init__" st "value") (S : TstM K mg CM CG CI)
    (B1 : Bin K C Operator.Add.info.2) (B2 : Bin K C Operator.Sub.info.2) (own : PySem.W.findIn K (.ref C) (PySem.dunder Operator.Add.info.2) = some (some (.ref f0)))
    (G_add : Met P w K mg base (L2.CX P w) 7 C (PySem.dunder Operator.Add.info.2) (spAddX K C CM id)) (G_radd : Met P w K mg base (L2.CX P w) 7 C (dunderR Operator.Add.info.2) (spAddX K C CM id)) (G_sub : Met P w K mg base (L2.CX P w) 7 C (PySem.dunder Operator.Sub.info.2) (spAddX K C CM fun d => -d)) :
    CalG P w K mg base CX0 8 "_law_refused" (spRefused K C) := by
  refine D.calG sc_law_refused (fun _ _ _ _ _ _ us hl => match us, hl with | [_, _], _ => rfl) (fun vs H Q E h => ?_) fun f cdv A outer s H vs Q E g hr h => ?_
  · obtain ⟨p, r, y, rfl, _⟩ := h; rfl
  · obtain ⟨p, r, y, rfl, hp, od, k⟩ := h
    have hu : (A.deeper (envOfC _ _ _ f cdv)).units + 64 < cLine := hr.units
    have gGap := S.gGap
    have gI := S.gI
    have hrep : ∀ (a : Addr) (oe : Obj) (pn : List (Addr × Obj)), CallR ((cxOf CX0 P w K mg base ["one", "odd", "kept", "way", "e"] "_law_refused" (defScope s_law_refused) f cdv A outer s H E).nox.suite a ((a, oe) :: pn)) (.builtin "repr") (rShw K) := fun a oe pn => call_shw g hu
    refine ⟨_, (pss_cons (ps_set (i := 2) sc_law_refused.nd rfl (Or.inl rfl) (pe_lst pa_nil))
      (pss_cons (ps_for PassesOwn.never rfl (pi_range1 (by rfl) T.b_range (pa_cons pe_int pa_nil)) (pg_name (i := 3) sc_law_refused.nd rfl (Or.inl rfl)) (pss_one (ps_tryT (.named (i := 4) rfl rfl ⟨rfl, by decide, .inl I.mg_⟩ (fun a oe cls d pn hz hf => pss_one (ps_expr (show PE _ _ (tBM K "list" rAppend (tVar 2) _) from pe_bm PySem.F.plainAttrs_list PySem.F.slot_list_append PySem.F.type_list_append mt_append (pv 2) (pa_cons (pe_lst (pa_cons (pe_callB (hrep a oe pn) (by rfl) T.b_repr (by decide +kernel) (pa_cons (pe_xf I.xk.xf I.no hz hf (pv 4)) pa_nil)) (pa_cons (pe_callB (call_isX I.xk hz hf) (by rfl) T.b_isinstance (by decide +kernel) (pa_cons (pv 4) (pa_cons (pe_glob (v := .ref CG) rfl gGap rfl) pa_nil))) (pa_cons (pe_callB (call_isX I.xk hz hf) (by rfl) T.b_isinstance (by decide +kernel) (pa_cons (pv 4) (pa_cons (pe_glob (v := .ref CI) rfl gI rfl) pa_nil))) pa_nil)))) pa_nil)))) .cut) rfl rfl sc_law_refused.nd takes0 (fun W pn xe tk _ => pss_one (ps_if (pt_cmpR op_eq (pv 3) pe_int (nomark _)) (pss_one (ps_expr (show PE _ _ (tOpS (fun σ => rLeft K C "add" (spAddX K C CM id) (WE W σ)) (tVar 0) (tVar 1)) from pe_left G_add B1 tk hr (by decide) (pv 0) (pv 1)))) (pss_one (ps_if (pt_cmpR op_eq (pv 3) pe_int (nomark _)) (pss_one (ps_expr (show PE _ _ (tOpS (fun σ => rRight K C "add" (spAddX K C CM id) (WE W σ)) (tVar 1) (tVar 0)) from pe_right G_radd B1 own tk hr (by decide) (pv 1) (pv 0)))) (pss_one (ps_expr (show PE _ _ (tOpS (fun σ => rLeft K C "sub" (spAddX K C CM fun d => -d) (WE W σ)) (tVar 0) (tVar 1)) from pe_left G_sub B2 tk hr (by decide) (pv 0) (pv 1)))))))))))
      (pss_one (ps_ret (pe_cmpR (op_eqD hr.units) (pv 2) (pe_op op_rep (pe_lst (pa_cons (pe_lst (pa_cons (pe_callB (call_shw g hu) (by rfl) T.b_repr (by decide +kernel) (pa_cons (pv 1) pa_nil)) (pa_cons pe_bl (pa_cons pe_bl pa_nil)))) pa_nil)) pe_int) (nomark _)))))), ?_⟩
    obtain ⟨tx, tok, tsh⟩ := id od.2.1
    refine ⟨by show 0 ≤ sizeLine; omega, fun ka nka => ?_⟩
    have sm0 : Same H (upd H ka (.lst [])) := same_new nka
    refine ⟨3, rfl, by decide, by decide, ?_⟩
    refine for_range (lo := 0) (n := 3) (fun i sg H' => ∃ v3 v4 : Option V, sg = [some (.ref p), some y, some (.ref ka), v3, v4] ∧ Same H H' ∧ ∃ rs : List Addr, rs.length = i ∧ H' ka = some (.lst (rs.map V.ref)) ∧ ∀ r ∈ rs, H' r = some (.lst (row3 tx)) ∧ r ≠ ka)
      ⟨_, _, rfl, sm0, [], rfl, upd_same, fun _ z => nomatch z⟩ ?_ ?_
    · rintro i sg H' hi ⟨v3, v4, rfl, sm, rs, lrs, hk, hrs⟩
      have od' := od.keep sm
      obtain ⟨bad, _, T', fa, fs, ty, N1, N2, lv, sb1, sb2⟩ := od'
      have hp' : RAt C H' p r := let ⟨dx, e⟩ := hp; ⟨dx, sm _ _ e⟩
      obtain ⟨dx, ep⟩ := id hp'
      match i, hi, lrs with
      | 0, _, lrs =>
        refine ⟨_, rfl, rfl, _, rfl, iteTe rfl ⟨_, rfl, _, rfl, p, dx, _, T', fa, rfl, ep, ty _ (Same.refl _), N1, sb1, p, r, y, rfl, hp', .inr ⟨bad, fun d nd => ?_⟩⟩⟩
        refine ⟨true, I.te, fun _ a na => ?_, fun z => nomatch z⟩
        have s2 := same_new (o := .xd [(("value" : Str), y)]) nd
        have ed : upd H' d (.xd [(("value" : Str), y)]) d = some (.xd [(("value" : Str), y)]) := upd_same
        generalize upd H' d (.xd [(("value" : Str), y)]) = H2 at *
        have hk2 := s2 _ _ hk
        refine ⟨_, rfl, .inl ⟨rfl, _, SqL.of hk2⟩, _, rfl, rfl, rfl, d, _, y, rfl, ed, rfl, y, tx, rfl, tsh _ (sm.trans s2), ?_⟩
        refine ⟨_, rfl, .ref CG, .ref CG, true, d, _, rfl, rfl, rfl, ed, fun _ z => z, S.kG, ?_⟩
        refine ⟨_, rfl, .ref CI, .ref CI, false, d, _, rfl, rfl, rfl, ed, fun _ z => z, S.kI, ?_⟩
        refine ⟨by show 3 ≤ sizeLine; decide, fun l nl => ?_⟩
        have lk : l ≠ ka := fun z => by rw [z, hk2] at nl; cases nl
        refine ⟨ka, _, _, rfl, rfl, by rw [upd_ne lk.symm]; exact hk2, by rw [List.length_map, lrs]; decide, ?_⟩
        refine ⟨_, _, rfl, same_mut (same_new' (sm.trans s2) nl) nka, rs ++ [l], by rw [List.length_append, lrs]; rfl, by rw [upd_same, List.map_append]; rfl, fun r hr => ?_⟩
        rcases List.mem_append.mp hr with h | h
        · obtain ⟨e, nk⟩ := hrs r h
          exact ⟨by rw [upd_ne nk, upd_ne (ne_of_none (s2 _ _ e) nl)]; exact s2 _ _ e, nk⟩
        · have e := List.mem_singleton.mp h
          rw [e]
          exact ⟨by rw [upd_ne lk, upd_same]; rfl, lk⟩
      | 1, _, lrs =>
        refine ⟨_, rfl, rfl, _, rfl, iteFe rfl ⟨_, rfl, rfl, _, rfl, iteTe rfl ⟨_, rfl, _, rfl, p, dx, _, T', fa, rfl, ep, ty _ (Same.refl _), N1, lv, sb2, p, r, y, rfl, hp', .inr ⟨bad, fun d nd => ?_⟩⟩⟩⟩
        refine ⟨true, I.te, fun _ a na => ?_, fun z => nomatch z⟩
        have s2 := same_new (o := .xd [(("value" : Str), y)]) nd
        have ed : upd H' d (.xd [(("value" : Str), y)]) d = some (.xd [(("value" : Str), y)]) := upd_same
        generalize upd H' d (.xd [(("value" : Str), y)]) = H2 at *
        have hk2 := s2 _ _ hk
        refine ⟨_, rfl, .inl ⟨rfl, _, SqL.of hk2⟩, _, rfl, rfl, rfl, d, _, y, rfl, ed, rfl, y, tx, rfl, tsh _ (sm.trans s2), ?_⟩
        refine ⟨_, rfl, .ref CG, .ref CG, true, d, _, rfl, rfl, rfl, ed, fun _ z => z, S.kG, ?_⟩
        refine ⟨_, rfl, .ref CI, .ref CI, false, d, _, rfl, rfl, rfl, ed, fun _ z => z, S.kI, ?_⟩
        refine ⟨by show 3 ≤ sizeLine; decide, fun l nl => ?_⟩
        have lk : l ≠ ka := fun z => by rw [z, hk2] at nl; cases nl
        refine ⟨ka, _, _, rfl, rfl, by rw [upd_ne lk.symm]; exact hk2, by rw [List.length_map, lrs]; decide, ?_⟩
        refine ⟨_, _, rfl, same_mut (same_new' (sm.trans s2) nl) nka, rs ++ [l], by rw [List.length_append, lrs]; rfl, by rw [upd_same, List.map_append]; rfl, fun r hr => ?_⟩
        rcases List.mem_append.mp hr with h | h
        · obtain ⟨e, nk⟩ := hrs r h
          exact ⟨by rw [upd_ne nk, upd_ne (ne_of_none (s2 _ _ e) nl)]; exact s2 _ _ e, nk⟩
        · have e := List.mem_singleton.mp h
          rw [e]
          exact ⟨by rw [upd_ne lk, upd_same]; rfl, lk⟩
      | 2, _, lrs =>
        refine ⟨_, rfl, rfl, _, rfl, iteFe rfl ⟨_, rfl, rfl, _, rfl, iteFe rfl ⟨_, rfl, _, rfl, p, dx, _, T', fs, rfl, ep, ty _ (Same.refl _), N2, sb1, p, r, y, rfl, hp', .inr ⟨bad, fun d nd => ?_⟩⟩⟩⟩
        refine ⟨true, I.te, fun _ a na => ?_, fun z => nomatch z⟩
        have s2 := same_new (o := .xd [(("value" : Str), y)]) nd
        have ed : upd H' d (.xd [(("value" : Str), y)]) d = some (.xd [(("value" : Str), y)]) := upd_same
        generalize upd H' d (.xd [(("value" : Str), y)]) = H2 at *
        have hk2 := s2 _ _ hk
        refine ⟨_, rfl, .inl ⟨rfl, _, SqL.of hk2⟩, _, rfl, rfl, rfl, d, _, y, rfl, ed, rfl, y, tx, rfl, tsh _ (sm.trans s2), ?_⟩
        refine ⟨_, rfl, .ref CG, .ref CG, true, d, _, rfl, rfl, rfl, ed, fun _ z => z, S.kG, ?_⟩
        refine ⟨_, rfl, .ref CI, .ref CI, false, d, _, rfl, rfl, rfl, ed, fun _ z => z, S.kI, ?_⟩
        refine ⟨by show 3 ≤ sizeLine; decide, fun l nl => ?_⟩
        have lk : l ≠ ka := fun z => by rw [z, hk2] at nl; cases nl
        refine ⟨ka, _, _, rfl, rfl, by rw [upd_ne lk.symm]; exact hk2, by rw [List.length_map, lrs]; decide, ?_⟩
        refine ⟨_, _, rfl, same_mut (same_new' (sm.trans s2) nl) nka, rs ++ [l], by rw [List.length_append, lrs]; rfl, by rw [upd_same, List.map_append]; rfl, fun r hr => ?_⟩
        rcases List.mem_append.mp hr with h | h
        · obtain ⟨e, nk⟩ := hrs r h
          exact ⟨by rw [upd_ne nk, upd_ne (ne_of_none (s2 _ _ e) nl)]; exact s2 _ _ e, nk⟩
        · have e := List.mem_singleton.mp h
          rw [e]
          exact ⟨by rw [upd_ne lk, upd_same]; rfl, lk⟩
      | i + 3, h, _ => exact absurd h (by omega)
    · rintro sg H' ⟨v3, v4, rfl, sm, rs, lrs, hk, hrs⟩
      obtain ⟨r1, r2, r3, rfl⟩ : ∃ r1 r2 r3, rs = [r1, r2, r3] := by
        match rs, lrs with
        | [a, b, c], _ => exact ⟨a, b, c, rfl⟩
      have h1 := (hrs r1 (by simp)).1
      have h2 := (hrs r2 (by simp)).1
      have h3 := (hrs r3 (by simp)).1
      refine ⟨_, rfl, _, rfl, y, tx, rfl, tsh _ sm, by show 3 ≤ sizeLine; decide, fun m nm => ⟨by show 1 ≤ sizeLine; decide, fun m2 nm2 => ?_⟩⟩
      have m12 : m2 ≠ m := fun z => by rw [z, upd_same] at nm2; cases nm2
      refine ⟨m2, 3, [.ref m], rfl, rfl, upd_same, by decide, by decide, by show 1 * 3 ≤ sizeLine; decide, fun m3 nm3 => ?_⟩
      have m31 : m3 ≠ m := fun z => by rw [z, upd_ne m12.symm, upd_same] at nm3; cases nm3
      have t1 := same_new (o := .lst (row3 tx)) nm
      have t2 := same_new' (o := .lst [.ref m]) t1 nm2
      have t3 := same_new' (o := .lst [.ref m, .ref m, .ref m]) t2 nm3
      have em : upd (upd (upd H' m (.lst (row3 tx))) m2 (.lst [.ref m])) m3 (.lst [.ref m, .ref m, .ref m]) m = some (.lst (row3 tx)) := by rw [upd_ne m31.symm, upd_ne m12.symm, upd_same]
      have dm := dp_row3 (K := K) (SqL.of em)
      have dp1 := dp_row3 (K := K) (SqL.of (t3 _ _ h1))
      have dp2 := dp_row3 (K := K) (SqL.of (t3 _ _ h2))
      have dp3 := dp_row3 (K := K) (SqL.of (t3 _ _ h3))
      refine ⟨.list [row3D tx, row3D tx, row3D tx], .list [row3D tx, row3D tx, row3D tx], .lst (SqL.of (t3 _ _ hk)) (.cons dp1 (.cons dp2 (.cons dp3 .nil))), .lst (SqL.of upd_same) (.cons dm (.cons dm (.cons dm .nil))), shp3 tok, shp3 tok, ?_⟩
      rw [eqv3]
      exact k _ (sm.trans t3)
end

end K04

namespace K04
open PySem PySem.Spec PyProof.Rows L2 Jg
local macro_rules | `(tactic| walk_at "rd1") => `(tactic| (first
  | refine ⟨_, rfl, ?_⟩
  | refine ⟨_, _, rfl, rfl, ?_⟩
  | refine ⟨_, _, rfl, ?_⟩
  | refine ⟨rfl, ?_⟩
  | (refine ⟨show (0 : Int) < _ by omega, ?_⟩)
  | (refine ⟨Or.inl ⟨by omega, by omega⟩, ?_⟩)
  | (refine ⟨Or.inr ⟨by omega, by omega⟩, ?_⟩)
  | (refine ⟨(⟨by decide, by decide, by decide⟩ : CPow _ _), ?_⟩)
  | refine Or.inl ⟨_, rfl, ?_⟩
  | refine Or.inr ⟨_, rfl, ?_⟩
  | fail "rd"))
local macro_rules | `(tactic| walk_at "rd") => `(tactic| repeat' walk_at "rd1")


def spLaw (K : PySem.W.Frag) : Sp := fun vs H Q _ => ∃ (a : Addr) (ns : List Int), vs = [.ref a] ∧ SqL K H a (ns.map V.int) ∧ ns.length ≤ 63 ∧ ∀ H', Q (.bl true) H'
structure OpsK (K : PySem.W.Frag) (C : Addr) : Prop where
  iC : PySem.W.subIn K (.type "int") (.ref C) = some false
  Ci : PySem.W.subIn K (.ref C) (.type "int") = some false
  bC : PySem.W.subIn K (.type "bool") (.ref C) = some false
  Cb : PySem.W.subIn K (.ref C) (.type "bool") = some false
  sC : PySem.W.subIn K (.type "str") (.ref C) = some false
  Cs : PySem.W.subIn K (.ref C) (.type "str") = some false
  tC : PySem.W.subIn K (.type "tuple") (.ref C) = some false
  Ct : PySem.W.subIn K (.ref C) (.type "tuple") = some false
  lC : PySem.W.subIn K (.type "list") (.ref C) = some false
  Cl : PySem.W.subIn K (.ref C) (.type "list") = some false
theorem out_bnd {i : Int} (h : ¬ Bnd i) : (decide (-B < i) && decide (i < B)) = false := by
  rw [Bool.and_eq_false_iff]
  by_cases c : -B < i
  · exact .inr (decide_eq_false fun z => h ⟨c, z⟩)
  · exact .inl (decide_eq_false c)
section
variable {K : PySem.W.Frag} {C : Addr} {H : Hp}
theorem om_bl (O : OpsK K C) (b : Bool) : OddM K C H (.bl b) := ⟨.inr ⟨_, true, true, fun _ _ => .base (.bl b), kit_ty (by decide +kernel), fun _ => kit_ty (by decide +kernel), rfl⟩, ⟨_, (by cases b <;> decide +kernel), fun _ _ => .bl b⟩, "bool", true, true, fun _ _ => .base (.bl b), num_bool_add, num_bool_sub, .inr ⟨rfl, .inr ⟨b, rfl, rfl⟩⟩, O.bC, O.Cb⟩
theorem om_str (O : OpsK K C) (x : Str) (h : (reprText x).length ≤ sizeLine) (o : PyData.strOk (reprText x) = true) : OddM K C H (.str x) := ⟨.inr ⟨_, false, false, fun _ _ => .base (.str x), kit_ty (by decide +kernel), (fun z => nomatch z), rfl⟩, ⟨_, o, fun _ _ => .str x h⟩, "str", false, false, fun _ _ => .base (.str x), num_str_add, num_str_sub, .inl rfl, O.sC, O.Cs⟩
theorem om_int (O : OpsK K C) (i : Int) (h : ¬ Bnd i) (z : i.natAbs.log2 < 1920) (o : PyData.strOk (toString i) = true) : OddM K C H (.int i) := ⟨.inl ⟨i, rfl, out_bnd h⟩, ⟨_, o, fun _ _ => .int i z⟩, "int", true, true, fun _ _ => .base (.int i), num_int_add, num_int_sub, .inr ⟨rfl, .inl ⟨i, rfl, rfl⟩⟩, O.iC, O.Ci⟩
theorem om_tup (O : OpsK K C) {a : Addr} (h : H a = some (.tup [])) : OddM K C H (.ref a) :=
  ⟨.inr ⟨_, false, false, fun H' s => .base (.tup (s _ _ h)), kit_ty (by decide +kernel), (fun z => nomatch z), rfl⟩, ⟨_, (by decide +kernel), fun H' s => .dat (.tup (SqT.of (s _ _ h)) .nil) (by decide +kernel) (by decide +kernel) (by decide +kernel)⟩, "tuple", false, false, fun H' s => .base (.tup (s _ _ h)), num_tuple_add, num_tuple_sub, .inl rfl, O.tC, O.Ct⟩
theorem om_lst (O : OpsK K C) {a : Addr} (h : H a = some (.lst [.int 2])) : OddM K C H (.ref a) :=
  ⟨.inr ⟨_, false, false, fun H' s => .base (.lst (s _ _ h)), kit_ty (by decide +kernel), (fun z => nomatch z), rfl⟩, ⟨_, (by decide +kernel), fun H' s => .dat (.lst (SqL.of (s _ _ h)) (.cons (.int 2) .nil)) (by decide +kernel) (by decide +kernel) (by decide +kernel)⟩, "list", false, false, fun H' s => .base (.lst (s _ _ h)), num_list_add, num_list_sub, .inl rfl, O.lC, O.Cl⟩
end
theorem mv_ok {r : Int × Int} {d : Int} (h : MvOk r d) : RngOk (mvR r d) := by
  obtain ⟨ok, mv⟩ := h
  unfold mvR
  split
  · exact .inl rfl
  · rename_i c
    have hB := B_eq
    obtain ⟨m1, m2⟩ := mv c
    have m11 : -B < r.1 + d := m1.1
    have m12 : r.1 + d < B := m1.2
    refine .inr ⟨m1, ?_, ?_⟩
    · show r.1 + d ≤ (if r.2 = B then B else r.2 + d)
      split <;> omega
    · show (if r.2 = B then B else r.2 + d) ≤ B
      split
      · omega
      · rename_i c2
        have := (m2 c2).2
        omega
/-- what was drawn may be moved -/
theorem dr_ok {f d : Int} {l : Option Int} (h : DrOk f l) (h1 : -E58 ≤ d) (h2 : d ≤ E58) : Bnd f ∧ BndO l ∧ Bnd d ∧ Bnd (f + d) ∧ (∀ i, l = some i → Bnd i ∧ Bnd (i + d)) ∧ MvOk (mkR f l) d := by
  have hB := B_eq
  have eE : E58 = 10000000000000000000000000000000000000000000000000000000000 := rfl
  obtain ⟨a1, a2, a3⟩ := h
  have bf : Bnd f := ⟨by omega, by omega⟩
  have bfd : Bnd (f + d) := ⟨by omega, by omega⟩
  have bl : BndO l := by
    cases l with
    | none => trivial
    | some i =>
      have := a3 i rfl
      exact ⟨by omega, by omega⟩
  have bi : ∀ i, l = some i → Bnd i ∧ Bnd (i + d) := fun i e => by
    have := a3 i e
    exact ⟨⟨by omega, by omega⟩, ⟨by omega, by omega⟩⟩
  refine ⟨bf, bl, ⟨by omega, by omega⟩, bfd, bi, rng_mk bf bl, fun c => ?_⟩
  cases l with
  | none =>
    refine ⟨bfd, fun z => absurd rfl z⟩
  | some i =>
    have e0 : mkR f (some i) = if i < f then (-B, -B - 1) else (f, i) := rfl
    rw [e0] at c ⊢
    split at c
    · exact absurd (show -B - 1 < -B by omega) c
    · rename_i c2
      rw [if_neg c2]
      exact ⟨bfd, fun _ => (bi i rfl).2⟩
theorem times_pk {z : Str} {n : Int} {k : Nat} (h : (z.length == 1 && n.toNat == k) = true) (h2 : (z.cps.toList.all fun c => decide (c < 128)) = true) : Pk k (timesT z n) := by
  obtain ⟨h1, h3⟩ := Bool.and_eq_true_iff.mp h
  have e1 : z.cps.size = 1 := beq_iff_eq.mp h1
  have e2 : n.toNat = k := beq_iff_eq.mp h3
  have fl : ∀ (k : Nat) (a : Array Nat), ((List.replicate k z.cps).foldl (· ++ ·) a).size = a.size + k ∧ ∀ c ∈ ((List.replicate k z.cps).foldl (· ++ ·) a).toList, c ∈ a.toList ∨ c ∈ z.cps.toList := by
    intro k
    induction k with
    | zero => exact fun a => ⟨rfl, fun c h => .inl h⟩
    | succ k ih =>
      intro a
      rw [List.replicate_succ, List.foldl_cons]
      obtain ⟨i1, i2⟩ := ih (a ++ z.cps)
      refine ⟨by rw [i1, Array.size_append]; omega, fun c hc => ?_⟩
      rcases i2 c hc with h | h
      · rw [Array.toList_append, List.mem_append] at h
        exact h
      · exact .inr h
  obtain ⟨f1, f2⟩ := fl n.toNat #[]
  constructor
  · show ((List.replicate n.toNat z.cps).foldl (· ++ ·) #[]).size ≤ k
    rw [f1, e2]
    show 0 + k ≤ k
    omega
  · intro c hc
    rcases f2 c hc with h | h
    · exact absurd h (by simp)
    · exact as_lit h2 c h
theorem bnd_lit {i : Int} (h : (decide (-B < i) && decide (i < B)) = true) : Bnd i := ⟨of_decide_eq_true (Bool.and_eq_true_iff.mp h).1, of_decide_eq_true (Bool.and_eq_true_iff.mp h).2⟩
def mvB (r : Int × Int) (d : Int) : Bool := (decide (-B < r.1) && decide (r.1 < B)) && ((decide (r.1 ≤ r.2) && decide (r.2 ≤ B)) && ((decide (-B < r.1 + d) && decide (r.1 + d < B)) && (decide (r.2 = B) || (decide (-B < r.2 + d) && decide (r.2 + d < B)))))
theorem mv_lit {r : Int × Int} {d : Int} (h : mvB r d = true) : MvOk r d := by
  obtain ⟨h1, h⟩ := Bool.and_eq_true_iff.mp h
  obtain ⟨h2, h⟩ := Bool.and_eq_true_iff.mp h
  obtain ⟨h3, h4⟩ := Bool.and_eq_true_iff.mp h
  obtain ⟨h21, h22⟩ := Bool.and_eq_true_iff.mp h2
  refine ⟨.inr ⟨bnd_lit h1, of_decide_eq_true h21, of_decide_eq_true h22⟩, fun _ => ⟨bnd_lit h3, fun n => ?_⟩⟩
  rcases Bool.or_eq_true_iff.mp h4 with e | e
  · exact absurd (of_decide_eq_true e) n
  · exact bnd_lit e
theorem ne_res {K : PySem.W.Frag} {H : Hp} {v u : V} {e : Res} {Q : VK} (h1 : RV H v e) (h2 : RV H u e) (q : Q (.bl false) H) : rNeD K v u H Q :=
  ⟨_, _, h1.dp, h2.dp, (resD_ok e).1, (resD_ok e).1, by rw [(resD_ok e).2]; exact q⟩
theorem res_zero {f : Int} {l : Option Int} (bf : Bnd f) (bl : BndO l) : resOf (mkR f l) = resMv f 0 l := by
  have hB := B_eq
  have h1 : -B < f := bf.1
  have h2 : f < B := bf.2
  cases l with
  | none =>
    show (if B < f then _ else some (f, if B = B then _ else _)) = some (f + 0, none)
    rw [if_neg (by omega), if_pos rfl, Int.add_zero]
  | some i =>
    have h3 : i < B := bl.2
    show resOf (if i < f then (-B, -B - 1) else (f, i)) = (if i < f then none else some (f + 0, some (i + 0)))
    by_cases c : i < f
    · rw [if_pos c, if_pos c]
      exact if_pos (by show -B - 1 < -B; omega)
    · rw [if_neg c, if_neg c, Int.add_zero, Int.add_zero]
      show (if i < f then _ else some (f, if i = B then _ else _)) = _
      rw [if_neg c, if_neg (by omega)]
section
variable {P : Program} {w : World} {K : PySem.W.Frag} {mg : Str → Option Value} {base : Heap} {C CM CP f0 : Addr}
abbrev s_law : Stmt := top 30
theorem sc_law : FnScope ["script", "k", "some", "text", "most", "stream", "turn", "one", "odd", "ends", "distance"] ["script"] (defScope s_law) := ⟨rfl, rfl, rfl, by decide +kernel, rfl, by decide +kernel, by decide +kernel⟩
theorem body_law (T : Txt K mg C) (O : OpsK K C) (ne : PySem.W.findIn K (.ref C) "__ne__" = some (some (.builtin "object.__ne__"))) (B1 : Bin K C Operator.Add.info.2) (B2 : Bin K C Operator.Sub.info.2) (own : PySem.W.findIn K (.ref C) (PySem.dunder Operator.Add.info.2) = some (some (.ref f0)))
    (M_Range : Mak P w K mg base CX0 3 "Range" C (spInit C)) (G_eq : Met P w K mg base CX0 1 C "__eq__" (spEqR K C)) (G_str : Met P w K mg base CX0 1 C "__str__" (spStr C))
    (G_add : Met P w K mg base (L2.CX P w) 7 C (PySem.dunder Operator.Add.info.2) (spAddX K C CM id)) (G_radd : Met P w K mg base (L2.CX P w) 7 C (dunderR Operator.Add.info.2) (spAddX K C CM id)) (G_sub : Met P w K mg base (L2.CX P w) 7 C (PySem.dunder Operator.Sub.info.2) (spAddX K C CM fun d => -d))
    (G_law_stream : Cal P w K mg base CX0 1 "_law_stream" (spStream K)) (G_law_draw : Cal P w K mg base CX0 1 "_law_draw" spDraw) (G_law_choose : Cal P w K mg base CX0 2 "_law_choose" (spChoose K)) (G_law_drawn : Cal P w K mg base CX0 3 "_law_drawn" spDrawn)
    (G_law_ends : Cal P w K mg base CX0 3 "_law_ends" (spEnds C)) (G_law_moved : Cal P w K mg base CX0 1 "_law_moved" (spMoved K)) (G_law_text : Cal P w K mg base CX0 1 "_law_text" spText) (G_law_due : Cal P w K mg base CX0 2 "_law_due" spDue) (G_law_read : Cal P w K mg base CX0 8 "_law_read" (spRead K CP))
    (G_law_bent : Cal P w K mg base CX0 3 "_law_bent" spBent) (G_law_refused : CalG P w K mg base CX0 8 "_law_refused" (spRefused K C))
    (ff : Addr) (cdv : Value) (A : Around) (outer : List Env) (s : Shared) (H : Hp) (vs : List V) (Q : VK) (E : XK) (g : (cxOf CX0 P w K mg base ["script", "k", "some", "text", "most", "stream", "turn", "one", "odd", "ends", "distance"] "law" (defScope s_law) ff cdv A outer s H E).nox.A.guards = some []) (hr : Room 9 (A.deeper (envOfC "law" (defScope s_law) s.heap.objs.size ff cdv))) (h : spLaw K vs H Q E) :
    ∃ t, PSs (cxOf CX0 P w K mg base ["script", "k", "some", "text", "most", "stream", "turn", "one", "odd", "ends", "distance"] "law" (defScope s_law) ff cdv A outer s H E).nox (defBody s_law) t ∧ t { nx := fun _ H' => Q .non H', rt := Q } (start ["script", "k", "some", "text", "most", "stream", "turn", "one", "odd", "ends", "distance"] vs) H := by
  obtain ⟨a, ns, rfl, hS, hl, k⟩ := h
  have hu : (A.deeper (envOfC "law" (defScope s_law) s.heap.objs.size ff cdv)).units + 64 < cLine := hr.units
  refine ⟨_, (pss_cons (ps_for PassesOwn.never rfl (pi_range1 (by rfl) T.b_range (pa_cons (pe_callB (call_max2 rfl) (by rfl) T.b_max (by decide +kernel) (pa_cons pe_int (pa_cons (pe_callB (call_min2 rfl) (by rfl) T.b_min (by decide +kernel) (pa_cons pe_int (pa_cons (pe_callB call_len_seq (by rfl) T.b_len (by decide +kernel) (pa_cons (pv 0) pa_nil)) pa_nil))) pa_nil))) pa_nil)) (pg_name (i := 1) sc_law.nd rfl (Or.inl rfl)) (pss_cons (ps_set (i := 5) sc_law.nd rfl (Or.inl rfl) (pe_c G_law_stream hr (by decide) rfl (pa_cons (pv 0) (pa_cons (pv 1) pa_nil))))
      (pss_one (ps_for PassesOwn.never rfl (pi_range1 (by rfl) T.b_range (pa_cons pe_int pa_nil)) (pg_name (i := 6) sc_law.nd rfl (Or.inl rfl)) (pss_cons (ps_par (i := 9) (j := 10) (by rfl) sc_law.nd rfl rfl (by decide) rfl rfl (pa_cons (pe_c G_law_drawn hr (by decide) rfl (pa_cons (pv 5) pa_nil)) (pa_cons (pe_op op_mul (pe_c G_law_draw hr (by decide) rfl (pa_cons (pv 5) (pa_cons (pe_op op_pow pe_int pe_int) pa_nil))) (pe_c G_law_choose hr (by decide) rfl (pa_cons (pv 5) (pa_cons (pe_lst (pa_cons pe_int (pa_cons (pe_un un_neg pe_int) (pa_cons pe_int pa_nil)))) pa_nil)))) pa_nil)) (by rfl))
      (pss_cons (ps_set (i := 7) sc_law.nd rfl (Or.inl rfl) (pe_mk M_Range hr (by decide) rfl (pa_cons (pe_ix (r := rIxT K) ix_tup (pv 9) pe_int (fun _ _ => rfl)) (pa_cons (pe_ix (r := rIxT K) ix_tup (pv 9) pe_int (fun _ _ => rfl)) pa_nil))))
      (pss_cons (ps_if (pt_cmpR (op_neD hu) (pe_c G_law_ends hr (by decide) rfl (pa_cons (pe_left G_add B1 takes0 hr (by decide) (pv 7) (pv 10)) pa_nil)) (pe_c G_law_moved hr (by decide) rfl (pa_cons (pv 9) (pa_cons (pv 10) pa_nil))) (nomark _)) (pss_one (ps_ret pe_bl)) pss_nil)
      (pss_cons (ps_if (pt_cmpR (op_neD hu) (pe_c G_law_ends hr (by decide) rfl (pa_cons (pe_right G_radd B1 own takes0 hr (by decide) (pv 10) (pv 7)) pa_nil)) (pe_c G_law_moved hr (by decide) rfl (pa_cons (pv 9) (pa_cons (pv 10) pa_nil))) (nomark _)) (pss_one (ps_ret pe_bl)) pss_nil)
      (pss_cons (ps_if (PW.pt (pw_or (pt_cmpR (op_neD hu) (pe_c G_law_ends hr (by decide) rfl (pa_cons (pe_left G_sub B2 takes0 hr (by decide) (pv 7) (pv 10)) pa_nil)) (pe_c G_law_moved hr (by decide) rfl (pa_cons (pv 9) (pa_cons (pe_un un_neg (pv 10)) pa_nil))) (nomark _)) (pw_or1 (pt_cmpR (op_neD hu) (pe_c G_law_ends hr (by decide) rfl (pa_cons (pv 7) pa_nil)) (pe_c G_law_moved hr (by decide) rfl (pa_cons (pv 9) (pa_cons pe_int pa_nil))) (nomark _))))) (pss_one (ps_ret pe_bl)) pss_nil)
      (pss_cons (ps_if (PW.pt (pw_or (pt_cmpR op_ne (pe_callTy (call_strO G_str hr (by decide)) (by rfl) T.b_str (by decide +kernel) (pa_cons (pv 7) pa_nil)) (pe_c G_law_text hr (by decide) rfl (pa_cons (pv 9) pa_nil)) (nomark _)) (pw_or1 (pt_cmpR (op_neD hu) (pe_c G_law_read hr (by decide) rfl (pa_cons (pe_c G_law_text hr (by decide) rfl (pa_cons (pv 9) pa_nil)) pa_nil)) (pe_c G_law_moved hr (by decide) rfl (pa_cons (pv 9) (pa_cons pe_int pa_nil))) (nomark _))))) (pss_one (ps_ret pe_bl)) pss_nil)
      (pss_cons (ps_for PassesOwn.never rfl (pi_list (pe_c G_law_bent hr (by decide) rfl (pa_cons (pv 5) (pa_cons (pe_c G_law_text hr (by decide) rfl (pa_cons (pv 9) pa_nil)) pa_nil)))) (pg_name (i := 3) sc_law.nd rfl (Or.inl rfl)) (pss_one (ps_if (pt_cmpR (op_neD hu) (pe_c G_law_read hr (by decide) rfl (pa_cons (pv 3) pa_nil)) (pe_c G_law_due hr (by decide) rfl (pa_cons (pv 3) pa_nil)) (nomark _)) (pss_one (ps_ret pe_bl)) pss_nil)))
      (pss_one (ps_for PassesOwn.never rfl (pi_list (pe_lst (pa_cons pe_bl (pa_cons pe_bl (pa_cons pe_str (pa_cons (pe_op op_pow pe_int pe_int) (pa_cons (pe_un un_neg (pe_op op_pow pe_int pe_int)) (pa_cons (pe_tup pa_nil) (pa_cons (pe_lst (pa_cons pe_int pa_nil)) pa_nil))))))))) (pg_name (i := 8) sc_law.nd rfl (Or.inl rfl)) (pss_one (ps_if (pt_not (pt_val (pe_cG G_law_refused g hr (by decide) rfl (pa_cons (pv 7) (pa_cons (pv 8) pa_nil))))) (pss_one (ps_ret pe_bl)) pss_nil)))))))))))))))
      (pss_cons (ps_set (i := 2) sc_law.nd rfl (Or.inl rfl) (pe_lst (pa_cons pe_str (pa_cons pe_str (pa_cons pe_str (pa_cons pe_str (pa_cons pe_str (pa_cons pe_str (pa_cons pe_str (pa_cons pe_str (pa_cons (pe_op op_add_str pe_str (pe_op op_mul_str pe_str pe_int)) pa_nil)))))))))))
      (pss_cons (ps_for PassesOwn.never rfl (pi_list (pe_op op_cat (pv 2) (pe_lst (pa_cons (pe_op op_add_str pe_str (pe_op op_mul_str pe_str pe_int)) (pa_cons (pe_op op_add_str pe_str (pe_op op_mul_str pe_str pe_int)) pa_nil))))) (pg_name (i := 3) sc_law.nd rfl (Or.inl rfl)) (pss_one (ps_if (pt_cmpR (op_neD hu) (pe_c G_law_read hr (by decide) rfl (pa_cons (pv 3) pa_nil)) (pe_c G_law_due hr (by decide) rfl (pa_cons (pv 3) pa_nil)) (nomark _)) (pss_one (ps_ret pe_bl)) pss_nil)))
      (pss_cons (ps_set (i := 4) sc_law.nd rfl (Or.inl rfl) (pe_op op_sub (pe_op op_pow pe_int pe_int) pe_int))
      (pss_cons (ps_if (PW.pt (pw_or (pt_cmpR (op_ne_c G_eq ne T.mro hr (by decide)) (pe_left G_add B1 takes0 hr (by decide) (pe_mk M_Range hr (by decide) rfl (pa_cons pe_int (pa_cons pe_int pa_nil))) (pv 4)) (pe_mk M_Range hr (by decide) rfl (pa_cons (pv 4) (pa_cons (pv 4) pa_nil))) (nomark _)) (pw_or1 (pt_cmpR (op_ne_c G_eq ne T.mro hr (by decide)) (pe_left G_sub B2 takes0 hr (by decide) (pe_mk M_Range hr (by decide) rfl (pa_cons (pv 4) (pa_cons pe_non pa_nil))) (pv 4)) (pe_mk M_Range hr (by decide) rfl (pa_cons pe_int (pa_cons pe_non pa_nil))) (nomark _))))) (pss_one (ps_ret pe_bl)) pss_nil)
      (pss_cons (ps_if (PW.pt (pw_or (pt_cmpR (op_ne_c G_eq ne T.mro hr (by decide)) (pe_right G_radd B1 own takes0 hr (by decide) (pv 4) (pe_mk M_Range hr (by decide) rfl (pa_cons (pe_un un_neg pe_int) (pa_cons pe_int pa_nil)))) (pe_mk M_Range hr (by decide) rfl (pa_cons (pe_op op_sub (pv 4) pe_int) (pa_cons (pv 4) pa_nil))) (nomark _)) (pw_or1 (pt_cmpR (op_ne_c G_eq ne T.mro hr (by decide)) (pe_left G_sub B2 takes0 hr (by decide) (pe_mk M_Range hr (by decide) rfl (pa_cons pe_int (pa_cons pe_int pa_nil))) (pv 4)) (pe_mk M_Range hr (by decide) rfl (pa_cons (pe_un un_neg (pv 4)) (pa_cons (pe_op op_sub pe_int (pv 4)) pa_nil))) (nomark _))))) (pss_one (ps_ret pe_bl)) pss_nil)
      (pss_one (ps_ret (pe_cmpR (op_eqD hu) (pe_lc (own := [("odd", 8)]) (g := gName 8) (by rfl) sc_law.nd (pi_list (pe_lst (pa_cons pe_non (pa_cons pe_int (pa_cons (pe_lst (pa_cons pe_str pa_nil)) (pa_cons (pe_tup (pa_cons pe_str (pa_cons pe_str pa_nil))) (pa_cons pe_dnewK (pa_cons pe_bl pa_nil)))))))) (blkOk_by (own := [("odd", 8)]) (N := ["script", "k", "some", "text", "most", "stream", "turn", "one", "odd", "ends", "distance"]) (sc := defScope s_law) (by decide +kernel)) (fun _ _ _ _ _ => pg_name (i := 8) sc_law.nd rfl (Or.inl rfl)) (fun _ _ _ _ _ => (pts_one (pt_cmpR op_notN (pe_c G_law_read hr (by decide) rfl (pa_cons (pv 8) pa_nil)) pe_non (nomark _)))) (fun _ _ _ _ _ => (pv 8))) (pe_lst pa_nil) (nomark _)))))))))), ?_⟩
  refine ⟨_, rfl, a, _, rfl, .inl hS, _, _, rfl, _, _, rfl, _, rfl, by split <;> split <;> omega, by rw [List.length_map]; split <;> split <;> omega, ?_⟩
  have tn : ∀ i : Nat, i < (if (if ((ns.map V.int).length : Int) < 10 then ((ns.map V.int).length : Int) else 10) > 1 then (if ((ns.map V.int).length : Int) < 10 then ((ns.map V.int).length : Int) else 10) else 1).toNat → i ≤ 1000 := by
    intro i hi
    rw [List.length_map] at hi
    split at hi <;> split at hi <;> omega
  refine for_range (lo := 0) (fun i sg H' => ∃ v1 v2 v3 v4 v5 v6 v7 v8 v9 v10 : Option V, sg = [some (.ref a), v1, v2, v3, v4, v5, v6, v7, v8, v9, v10] ∧ Same H H') ⟨_, _, _, _, _, _, _, _, _, _, rfl, .refl H⟩ ?_ ?_
  · rintro i sg H1 hi ⟨v1, v2, v3, v4, v5, v6, v7, v8, v9, v10, rfl, s1⟩
    have hk := tn i hi
    clear tn hi
    have ei : (0 : Int) + (i : Nat) = ((i : Nat) : Int) := by omega
    rw [ei]
    refine ⟨_, rfl, _, rfl, a, ns, i, rfl, s1.seq hS, hk, fun p x y np hx => ?_⟩
    have npz : H p = none := s1.free np
    have sA : Same H (upd H1 p (.lst [.int x, .int y])) := same_new' s1 np
    refine ⟨4, rfl, by decide, by decide, ?_⟩
    refine for_range (lo := 0) (n := 4) (fun _ sg H' => ∃ v1 v2 v3 v4 v6 v7 v8 v9 v10 : Option V, sg = [some (.ref a), v1, v2, v3, v4, some (.ref p), v6, v7, v8, v9, v10] ∧ Same H H' ∧ StA H' p) ⟨_, _, _, _, _, _, _, _, _, rfl, sA, x, y, upd_same, hx⟩ ?_ ?_
    · rintro t sg H2 ht ⟨v1, v2, v3, v4, v6, v7, v8, v9, v10, rfl, s2, st2⟩
      obtain ⟨E5, eE5⟩ : ∃ E5, E5 = E58 := ⟨_, rfl⟩
      have eE : E58 = 10000000000000000000000000000000000000000000000000000000000 := rfl
      refine ⟨_, rfl, p, rfl, st2, fun f l te H3 dro nte tep hte st3 sb3 => ?_⟩
      obtain ⟨a3, b3, e3, ha3⟩ := id st3
      refine ⟨_, rfl, _, _, rfl, rfl, ⟨by decide, by decide, by decide⟩, p, a3, b3, 10 ^ (58 : Int).toNat, rfl, e3, ha3, by rw [p58]; decide, i300 (by rw [p58]; decide) (by rw [p58]; decide), fun dd a' b' d0 d1 h' => ?_⟩
      rw [p58] at d1
      have st4 : StA (upd H3 p (.lst [.int a', .int b'])) p := ⟨a', b', upd_same, h'⟩
      have sb4 : SameB p H2 (upd H3 p (.lst [.int a', .int b'])) := sb3.mut
      have hte4 : upd H3 p (.lst [.int a', .int b']) te = some (.tup [.int f, oV l]) := by rw [upd_ne tep]; exact hte
      generalize upd H3 p (.lst [.int a', .int b']) = H4 at *
      refine ⟨_, rfl, _, rfl, by show 3 ≤ sizeLine; decide, fun l4 n4 => ?_⟩
      obtain ⟨a5, b5, e5, ha5⟩ := st4.new (o := .lst [.int 1, .int (-1), .int 0]) n4
      refine ⟨p, l4, a5, b5, _, rfl, e5, ha5, SqL.of upd_same, st4.ne n4, by decide, by decide, fun i v a' b' hi h' => ?_⟩
      have hv := List.mem_of_getElem? hi
      obtain ⟨c, rfl, c1⟩ : ∃ c, v = .int c ∧ (c = 1 ∨ c = -1 ∨ c = 0) := by
        simp only [List.mem_cons, List.not_mem_nil, or_false] at hv
        rcases hv with rfl | rfl | rfl
        · exact ⟨_, rfl, .inl rfl⟩
        · exact ⟨_, rfl, .inr (.inl rfl)⟩
        · exact ⟨_, rfl, .inr (.inr rfl)⟩
      have st6 : StA (upd (upd H4 l4 (.lst [.int 1, .int (-1), .int 0])) p (.lst [.int a', .int b'])) p := ⟨a', b', upd_same, h'⟩
      have sb6 : SameB p H2 (upd (upd H4 l4 (.lst [.int 1, .int (-1), .int 0])) p (.lst [.int a', .int b'])) := (sb4.new n4).mut
      have hte6 : upd (upd H4 l4 (.lst [.int 1, .int (-1), .int 0])) p (.lst [.int a', .int b']) te = some (.tup [.int f, oV l]) := by rw [upd_ne tep, upd_ne (ne_of_none hte4 n4)]; exact hte4
      generalize upd (upd H4 l4 (.lst [.int 1, .int (-1), .int 0])) p (.lst [.int a', .int b']) = H6 at *
      refine ⟨_, _, rfl, rfl, .inr ⟨by omega, by omega⟩, .ref te, .int (dd * c), rfl, ?_⟩
      obtain ⟨D, eD, D1, D2⟩ : ∃ D, D = dd * c ∧ -E58 ≤ D ∧ D ≤ E58 := by
        refine ⟨_, rfl, ?_⟩
        rcases c1 with rfl | rfl | rfl <;> omega
      obtain ⟨bf, bl, bD, bfd, bld, mv⟩ := dr_ok dro D1 D2
      obtain ⟨_, _, bDn, bfn, bln, mvn⟩ := dr_ok (d := -D) dro (by omega) (by omega)
      have rm := res_moved bfd bld bf
      have rmn := res_moved bfn bln bf
      have rz := res_zero bf bl
      have rok := rng_mk bf bl
      rw [← eD]
      clear eD c1
      refine ⟨_, rfl, te, _, 0, _, rfl, rfl, SqT.of hte6, atI_nat (j := 0) rfl, _, rfl, te, _, 1, _, rfl, rfl, SqT.of hte6, atI_nat (j := 1) rfl, fun x dx nx ndx nex => ⟨x, dx, f, l, rfl, upd_same, bf, bl, fun H7 R7 kp => ⟨rfl, ?_⟩⟩⟩
      have s67 := Same.made nx ndx kp
      have hte7 := s67 _ _ hte6
      have st7 : StA H7 p := let ⟨a, b, e, z⟩ := st6; ⟨a, b, s67 _ _ e, z⟩
      have sb7 : SameB p H2 H7 := sb6.trans (.of s67)
      -- one + distance
      obtain ⟨dy, ey⟩ := id R7
      refine ⟨_, rfl, _, rfl, x, dy, _, "int", true, rfl, ey, .base (.int D), num_int_add, O.iC, x, _, .int D, rfl, R7, .inl ⟨D, rfl, bD, mv, fun y1 G1 ny1 t1 R1 => ?_⟩⟩
      refine ⟨y1, _, rfl, R1, mv_ok mv, fun v G2 t2 rv => ⟨_, rfl, _, rfl, te, f, l, D, rfl, (t1.trans t2) _ _ hte7, fun v2 G3 t3 rv2 => ?_⟩⟩
      refine ne_res (rv.keep t3) (by rw [show id D = D from rfl, rm]; exact rv2) ⟨_, rfl, iteF ?_⟩
      have s73 := (t1.trans t2).trans t3
      -- distance + one
      refine ⟨_, rfl, _, rfl, x, dy, _, "int", true, rfl, s73 _ _ ey, .base (.int D), num_int_add, .inr ⟨rfl, .inl ⟨D, rfl, rfl⟩⟩, O.Ci, x, _, .int D, rfl, ⟨dy, s73 _ _ ey⟩, .inl ⟨D, rfl, bD, mv, fun y2 G4 ny2 t4 R2 => ?_⟩⟩
      refine ⟨y2, _, rfl, R2, mv_ok mv, fun v G5 t5 rv => ⟨_, rfl, _, rfl, te, f, l, D, rfl, (s73.trans (t4.trans t5)) _ _ hte7, fun v2 G6 t6 rv2 => ?_⟩⟩
      refine ne_res (rv.keep t6) (by rw [show id D = D from rfl, rm]; exact rv2) ⟨_, rfl, iteF ?_⟩
      have s76 := s73.trans ((t4.trans t5).trans t6)
      -- one - distance, one
      refine ⟨_, rfl, _, rfl, x, dy, _, "int", true, rfl, s76 _ _ ey, .base (.int D), num_int_sub, O.iC, x, _, .int D, rfl, ⟨dy, s76 _ _ ey⟩, .inl ⟨D, rfl, bD, mvn, fun y3 G7 ny3 t7 R3 => ?_⟩⟩
      refine ⟨y3, _, rfl, R3, mv_ok mvn, fun v G8 t8 rv => ⟨_, rfl, _, rfl, _, rfl, te, f, l, -D, rfl, (s76.trans (t7.trans t8)) _ _ hte7, fun v2 G9 t9 rv2 => ?_⟩⟩
      refine ne_res (rv.keep t9) (by rw [rmn]; exact rv2) ⟨_, rfl, iteF ?_⟩
      have s79 := s76.trans ((t7.trans t8).trans t9)
      refine ⟨_, rfl, x, _, rfl, ⟨dy, s79 _ _ ey⟩, rok, fun v G10 t10 rv => ⟨_, rfl, te, f, l, 0, rfl, (s79.trans t10) _ _ hte7, fun v2 G11 t11 rv2 => ?_⟩⟩
      refine ne_res (rv.keep t11) (by rw [rz]; exact rv2) ⟨_, rfl, iteF ?_⟩
      have s711 := s79.trans (t10.trans t11)
      -- texts
      refine ⟨_, rfl, x, dy, _, rfl, s711 _ _ ey, x, _, rfl, ⟨dy, s711 _ _ ey⟩, rok, _, rfl, _, rfl, te, f, l, rfl, s711 _ _ hte7, bf, bl, rfl, _, rfl, iteFe (by rw [decide_eq_true rfl]; rfl) ?_⟩
      obtain ⟨rt1, rt2, rt3, rt4⟩ := read_text rok
      have rd : dueRes (strR (mkR f l)) = some (resMv f 0 l) := by
        unfold dueRes
        rw [rt1, ← rz]; rfl
      refine ⟨_, rfl, te, f, l, rfl, s711 _ _ hte7, bf, bl, _, rfl, .inl ⟨_, rfl, rt2, fun v G12 t12 rv => ⟨_, rfl, te, f, l, 0, rfl, (s711.trans t12) _ _ hte7, fun v2 G13 t13 rv2 => ?_⟩⟩⟩
      refine ne_res (rv.keep t13) (by rw [rd]; exact rv2) ⟨_, rfl, iteF ?_⟩
      have s713 := s711.trans (t12.trans t13)
      have st13 : StA G13 p := let ⟨a, b, e, z⟩ := st7; ⟨a, b, s713 _ _ e, z⟩
      -- bent texts
      refine ⟨_, rfl, _, rfl, te, f, l, rfl, s713 _ _ hte7, bf, bl, p, _, rfl, st13, ⟨rt3, rt2.2⟩, rt4, fun ws lw G14 hws lws nlw lwp hlw st14 sb14 => ⟨lw, rfl, ⟨_, SqL.of hlw⟩, ?_⟩⟩
      have xp : x ≠ p := fun z => by
        obtain ⟨a, b, e, _⟩ := st7
        rw [← z, ey] at e
        cases e
      have ey14 := sb14 _ _ (s713 _ _ ey) xp
      have sb714 : SameB p H2 G14 := (sb7.trans (.of s713)).trans sb14
      refine for_list (K := K) (a := lw) (xs := ws.map V.str) (fun _ sg H' => ∃ v1 v2 v3 v4 v6 v8 : Option V, sg = [some (.ref a), v1, v2, v3, v4, some (.ref p), v6, some (.ref x), v8, some (.ref te), some (.int D)] ∧ Same G14 H') ⟨_, _, _, _, _, _, rfl, .refl _⟩ (fun _ sg H' _ ⟨_, _, _, _, _, _, _, z⟩ => SqL.of (z _ _ hlw)) ?_ ?_
      · rintro j y sg G15 hj ⟨v1, v2, v3, v4, v6, v8, rfl, t15⟩
        obtain ⟨z, hz, rfl⟩ : ∃ z, z ∈ ws ∧ y = .str z := by
          rw [List.getElem?_map] at hj
          cases e : ws[j]? with
          | none => rw [e] at hj; cases hj
          | some z => rw [e] at hj; exact ⟨z, List.mem_of_getElem? e, (Option.some.inj hj).symm⟩
        refine ⟨_, rfl, _, rfl, .inl ⟨z, rfl, hws z hz, fun v G16 t16 rv => ⟨_, rfl, z, rfl, hws z hz, fun v2 G17 t17 rv2 => ?_⟩⟩⟩
        refine ne_res (rv.keep t17) rv2 ⟨_, rfl, iteF ?_⟩
        exact ⟨_, _, _, _, _, _, rfl, (t15.trans t16).trans t17⟩
      · rintro sg G15 ⟨v1, v2, v3, v4, v6, v8, rfl, t15⟩
        refine ⟨_, _, rfl, rfl, ⟨by decide, by decide, by decide⟩, _, _, rfl, rfl, ⟨by decide, by decide, by decide⟩, _, rfl, by show 0 ≤ sizeLine; decide, fun t1 nt1 => ?_⟩
        have p1 := same_new (o := .tup []) nt1
        refine ⟨by show 1 ≤ sizeLine; decide, fun t2 nt2 => ?_⟩
        have p2 := same_new (o := .lst [.int 2]) nt2
        refine ⟨by show 7 ≤ sizeLine; decide, fun lo nlo => ?_⟩
        have p3 := same_new (o := .lst [.bl true, .bl false, .str "1", .int (10 ^ (60 : Int).toNat), .int (-10 ^ (60 : Int).toNat), .ref t1, .ref t2]) nlo
        obtain ⟨He, eHe⟩ : ∃ He, He = upd (upd (upd G15 t1 (.tup [])) t2 (.lst [.int 2])) lo (.lst [.bl true, .bl false, .str "1", .int (10 ^ (60 : Int).toNat), .int (-10 ^ (60 : Int).toNat), .ref t1, .ref t2]) := ⟨_, rfl⟩
        have elo : He lo = some (.lst [.bl true, .bl false, .str "1", .int (10 ^ (60 : Int).toNat), .int (-10 ^ (60 : Int).toNat), .ref t1, .ref t2]) := by rw [eHe, upd_same]
        have et1 : He t1 = some (.tup []) := by rw [eHe]; exact (p2.trans p3) _ _ upd_same
        have et2 : He t2 = some (.lst [.int 2]) := by rw [eHe]; exact p3 _ _ upd_same
        have se : Same G15 He := by rw [eHe]; exact p1.trans (p2.trans p3)
        rw [← eHe]
        clear eHe p1 p2 p3
        have s14e := t15.trans se
        refine ⟨lo, rfl, ⟨_, SqL.of elo⟩, ?_⟩
        refine for_list (K := K) (a := lo) (xs := [.bl true, .bl false, .str "1", .int (10 ^ (60 : Int).toNat), .int (-10 ^ (60 : Int).toNat), .ref t1, .ref t2]) (fun _ sg H' => ∃ v1 v2 v3 v4 v6 v8 : Option V, sg = [some (.ref a), v1, v2, v3, v4, some (.ref p), v6, some (.ref x), v8, some (.ref te), some (.int D)] ∧ Same He H') ⟨_, _, _, _, _, _, rfl, .refl _⟩ (fun _ sg H' _ ⟨_, _, _, _, _, _, _, z⟩ => SqL.of (z _ _ elo)) ?_ ?_
        · rintro j y sg G16 hj ⟨v1, v2, v3, v4, v6, v8, rfl, t16⟩
          have od : OddM K C He y := by
            match j, hj with
            | 0, hj => cases hj; exact om_bl O true
            | 1, hj => cases hj; exact om_bl O false
            | 2, hj => cases hj; exact om_str O _ (by decide +kernel) (by decide +kernel)
            | 3, hj => cases hj; exact om_int O _ (by unfold Bnd B; decide +kernel) (by decide +kernel) (by decide +kernel)
            | 4, hj => cases hj; exact om_int O _ (by unfold Bnd B; decide +kernel) (by decide +kernel) (by decide +kernel)
            | 5, hj => cases hj; exact om_tup O et1
            | 6, hj => cases hj; exact om_lst O et2
            | j + 7, hj => cases hj
          refine ⟨_, rfl, _, rfl, x, _, y, rfl, ⟨dy, t16 _ _ (s14e _ _ ey14)⟩, od.keep t16, fun G17 t17 => ⟨_, rfl, iteF ?_⟩⟩
          exact ⟨_, _, _, _, _, _, rfl, t16.trans t17⟩
        · rintro sg G16 ⟨v1, v2, v3, v4, v6, v8, rfl, t16⟩
          have sE := s14e.trans t16
          refine ⟨_, _, _, _, _, _, _, _, _, rfl, SameB.out s2 (sb714.trans (.of sE)) npz, ?_⟩
          obtain ⟨a9, b9, e9, z9⟩ := st14
          exact ⟨a9, b9, sE _ _ e9, z9⟩
    · rintro sg H2 ⟨v1, v2, v3, v4, v6, v7, v8, v9, v10, rfl, s2, _⟩
      exact ⟨_, _, _, _, _, _, _, _, _, _, rfl, s2⟩
  · rintro sg H1 ⟨v1, v2, v3, v4, v5, v6, v7, v8, v9, v10, rfl, s1⟩
    have szl := sizeLine_eq
    have k9 : Pk 60 (timesT "9" 60) := times_pk (by decide) (by decide +kernel)
    have k0 : Pk 60 (timesT "0" 60) := times_pk (by decide) (by decide +kernel)
    have k44 : Pk 4400 (timesT "9" 4400) := times_pk (by decide) (by decide +kernel)
    have la : Pk 2 (Str.ofString "1 ") := pk_lit (by decide) (by decide +kernel)
    have lb : Pk 3 (Str.ofString "1 1") := pk_lit (by decide) (by decide +kernel)
    have m9 := la.app k9
    have m0 := lb.app k0
    have m44 := la.app k44
    have ok : ∀ {k : Nat} {a b : Str}, Pk k (a ++ b) → k ≤ 10000 → a.length + b.length ≤ sizeLine := fun h h2 => by
      have := h.1
      rw [Str.length_append] at this
      omega
    refine ⟨_, 60, rfl, rfl, by decide, by decide, by decide, _, _, rfl, rfl, ok m9 (by decide), by show 9 ≤ sizeLine; omega, fun ls nls => ?_⟩
    have els : upd H1 ls (.lst [.str "", .str "empty ", .str "0 -0", .str "-0 3", .str "3 2", .str "- -", .str "- 4", .str "03 4", .str (Str.ofString "1 " ++ timesT "9" 60)]) ls = some (.lst [.str "", .str "empty ", .str "0 -0", .str "-0 3", .str "3 2", .str "- -", .str "- 4", .str "03 4", .str (Str.ofString "1 " ++ timesT "9" 60)]) := upd_same
    generalize upd H1 ls (.lst [.str "", .str "empty ", .str "0 -0", .str "-0 3", .str "3 2", .str "- -", .str "- 4", .str "03 4", .str (Str.ofString "1 " ++ timesT "9" 60)]) = J1 at *
    refine ⟨_, rfl, _, 60, rfl, rfl, by decide, by decide, by decide, _, _, rfl, rfl, ok m0 (by decide), _, 4400, rfl, rfl, by decide, by decide, by decide, _, _, rfl, rfl, ok m44 (by decide), by show 2 ≤ sizeLine; omega, fun l2 n2 => ?_⟩
    have q2 := same_new (o := .lst [.str (Str.ofString "1 1" ++ timesT "0" 60), .str (Str.ofString "1 " ++ timesT "9" 4400)]) n2
    refine ⟨ls, l2, _, _, rfl, rfl, q2 _ _ els, upd_same, by show 9 + 2 ≤ sizeLine; omega, fun l3 n3 => ?_⟩
    have hx : ∀ y ∈ [V.str "", .str "empty ", .str "0 -0", .str "-0 3", .str "3 2", .str "- -", .str "- 4", .str "03 4", .str (Str.ofString "1 " ++ timesT "9" 60)] ++ [.str (Str.ofString "1 1" ++ timesT "0" 60), .str (Str.ofString "1 " ++ timesT "9" 4400)], ∃ z, y = .str z ∧ Pln z := by
      intro y hy
      simp only [List.cons_append, List.nil_append, List.mem_cons, List.not_mem_nil, or_false] at hy
      have lit : ∀ z : Str, decide (z.length ≤ 10) = true → (z.cps.toList.all fun c => decide (c < 128)) = true → Pln z := fun z h1 h2 => (pk_lit h1 h2).pl (by decide)
      rcases hy with rfl | rfl | rfl | rfl | rfl | rfl | rfl | rfl | rfl | rfl | rfl
      · exact ⟨_, rfl, lit _ (by decide) (by decide +kernel)⟩
      · exact ⟨_, rfl, lit _ (by decide) (by decide +kernel)⟩
      · exact ⟨_, rfl, lit _ (by decide) (by decide +kernel)⟩
      · exact ⟨_, rfl, lit _ (by decide) (by decide +kernel)⟩
      · exact ⟨_, rfl, lit _ (by decide) (by decide +kernel)⟩
      · exact ⟨_, rfl, lit _ (by decide) (by decide +kernel)⟩
      · exact ⟨_, rfl, lit _ (by decide) (by decide +kernel)⟩
      · exact ⟨_, rfl, lit _ (by decide) (by decide +kernel)⟩
      · exact ⟨_, rfl, m9.pl (by decide)⟩
      · exact ⟨_, rfl, m0.pl (by decide)⟩
      · exact ⟨_, rfl, m44.pl (by decide)⟩
    generalize [V.str "", .str "empty ", .str "0 -0", .str "-0 3", .str "3 2", .str "- -", .str "- 4", .str "03 4", .str (Str.ofString "1 " ++ timesT "9" 60)] ++ [.str (Str.ofString "1 1" ++ timesT "0" 60), .str (Str.ofString "1 " ++ timesT "9" 4400)] = xs at *
    have el3 : upd (upd J1 l2 (.lst [.str (Str.ofString "1 1" ++ timesT "0" 60), .str (Str.ofString "1 " ++ timesT "9" 4400)])) l3 (.lst xs) l3 = some (.lst xs) := upd_same
    generalize upd (upd J1 l2 (.lst [.str (Str.ofString "1 1" ++ timesT "0" 60), .str (Str.ofString "1 " ++ timesT "9" 4400)])) l3 (.lst xs) = J3 at *
    refine ⟨l3, rfl, ⟨_, SqL.of el3⟩, ?_⟩
    refine for_list (K := K) (a := l3) (xs := xs) (fun _ sg H' => ∃ v1 v2 v3 v4 v5 v6 v7 v8 v9 v10 : Option V, sg = [some (.ref a), v1, v2, v3, v4, v5, v6, v7, v8, v9, v10] ∧ Same J3 H') ⟨_, _, _, _, _, _, _, _, _, _, rfl, .refl _⟩ (fun _ sg H' _ ⟨_, _, _, _, _, _, _, _, _, _, _, z⟩ => SqL.of (z _ _ el3)) ?_ ?_
    · rintro j y sg G15 hj ⟨v1, v2, v3, v4, v5, v6, v7, v8, v9, v10, rfl, t15⟩
      obtain ⟨z, rfl, hz⟩ := hx y (List.mem_of_getElem? hj)
      refine ⟨_, rfl, _, rfl, .inl ⟨z, rfl, hz, fun v G16 t16 rv => ⟨_, rfl, z, rfl, hz, fun v2 G17 t17 rv2 => ?_⟩⟩⟩
      refine ne_res (rv.keep t17) rv2 ⟨_, rfl, iteF ?_⟩
      exact ⟨_, _, _, _, _, _, _, _, _, _, rfl, (t15.trans t16).trans t17⟩
    · rintro sg J4 ⟨v1, v2, v3, v4, v5, v6, v7, v8, v9, v10, rfl, t4⟩
      obtain ⟨M, eM⟩ : ∃ M : Int, M = 10 ^ (60 : Int).toNat - 1 := ⟨_, rfl⟩
      have bM : Bnd M := by rw [eM]; exact bnd_lit (by decide +kernel)
      have bm : ∀ i : Int, -5 ≤ i → i ≤ 5 → Bnd i := fun i h1 h2 => by
        have hB := B_eq
        exact ⟨by omega, by omega⟩
      have bM1 : Bnd (M - 1) := by rw [eM]; exact bnd_lit (by decide +kernel)
      have bMn : Bnd (-M) := by rw [eM]; exact bnd_lit (by decide +kernel)
      have bM2 : Bnd (1 - M) := by rw [eM]; exact bnd_lit (by decide +kernel)
      have v1k : MvOk (mkR 0 (some 0)) M ∧ decide (mvR (mkR 0 (some 0)) M = mkR M (some M)) = true := by rw [eM]; exact ⟨mv_lit (by decide +kernel), by decide +kernel⟩
      have v2k : MvOk (mkR M none) (-M) ∧ decide (mvR (mkR M none) (-M) = mkR 0 none) = true := by rw [eM]; exact ⟨mv_lit (by decide +kernel), by decide +kernel⟩
      have v3k : MvOk (mkR (-1) (some 0)) M ∧ decide (mvR (mkR (-1) (some 0)) M = mkR (M - 1) (some M)) = true := by rw [eM]; exact ⟨mv_lit (by decide +kernel), by decide +kernel⟩
      have v4k : MvOk (mkR 0 (some 1)) (-M) ∧ decide (mvR (mkR 0 (some 1)) (-M) = mkR (-M) (some (1 - M))) = true := by rw [eM]; exact ⟨mv_lit (by decide +kernel), by decide +kernel⟩
      refine ⟨_, _, rfl, rfl, ⟨by decide, by decide, by decide⟩, _, _, rfl, rfl, ?_⟩
      dsimp only
      rw [← eM]
      clear eM
      -- Range(0, 0) + most != Range(most, most)
      refine fun x1 d1 nx1 nd1 ne1 => ⟨x1, d1, 0, some 0, rfl, upd_same, bm 0 (by omega) (by omega), bm 0 (by omega) (by omega), fun K1 R1 kp1 => ⟨rfl, ?_⟩⟩
      obtain ⟨z1, ez1⟩ := id R1
      refine ⟨_, rfl, x1, z1, _, "int", true, rfl, ez1, .base (.int M), num_int_add, O.iC, x1, _, .int M, rfl, R1, .inl ⟨M, rfl, bM, v1k.1, fun y1 K2 ny1 t2 S1 => ?_⟩⟩
      refine ⟨_, rfl, _, rfl, fun x2 d2 nx2 nd2 ne2 => ⟨x2, d2, M, some M, rfl, upd_same, bM, bM, fun K3 R2 kp2 => ⟨rfl, ?_⟩⟩⟩
      have S1' : RAt C K3 y1 (mvR (mkR 0 (some 0)) M) := let ⟨d, e⟩ := S1; ⟨d, Same.made nx2 nd2 kp2 _ _ e⟩
      obtain ⟨w1, ew1⟩ := id S1'
      refine ⟨y1, w1, _, .ref C, rfl, ew1, T.ty R2, T.oCC, y1, .ref x2, _, rfl, S1', .inl ⟨x2, _, rfl, R2, fun K4 _ => ⟨_, rfl, _, rfl, iteFe (by rw [v1k.2]; rfl) ?_⟩⟩⟩
      -- Range(most, None) - most != Range(0, None)
      refine ⟨_, rfl, fun x1 d1 nx1 nd1 ne1 => ⟨x1, d1, M, none, rfl, upd_same, bM, trivial, fun K1 R1 kp1 => ⟨rfl, ?_⟩⟩⟩
      obtain ⟨z1, ez1⟩ := id R1
      refine ⟨_, rfl, x1, z1, _, "int", true, rfl, ez1, .base (.int M), num_int_sub, O.iC, x1, _, .int M, rfl, R1, .inl ⟨M, rfl, bM, v2k.1, fun y1 K2 ny1 t2 S1 => ?_⟩⟩
      refine fun x2 d2 nx2 nd2 ne2 => ⟨x2, d2, 0, none, rfl, upd_same, bm 0 (by omega) (by omega), trivial, fun K3 R2 kp2 => ⟨rfl, ?_⟩⟩
      have S1' : RAt C K3 y1 (mvR (mkR M none) (-M)) := let ⟨d, e⟩ := S1; ⟨d, Same.made nx2 nd2 kp2 _ _ e⟩
      obtain ⟨w1, ew1⟩ := id S1'
      refine ⟨y1, w1, _, .ref C, rfl, ew1, T.ty R2, T.oCC, y1, .ref x2, _, rfl, S1', .inl ⟨x2, _, rfl, R2, fun K5 _ => ⟨_, rfl, _, rfl, iteFe (by rw [v2k.2]; rfl) ?_⟩⟩⟩
      -- most + Range(-1, 0) != Range(most - 1, most)
      refine ⟨_, rfl, _, rfl, fun x1 d1 nx1 nd1 ne1 => ⟨x1, d1, -1, some 0, rfl, upd_same, bm (-1) (by omega) (by omega), bm 0 (by omega) (by omega), fun K1 R1 kp1 => ⟨rfl, ?_⟩⟩⟩
      obtain ⟨z1, ez1⟩ := id R1
      refine ⟨x1, z1, _, "int", true, rfl, ez1, .base (.int M), num_int_add, .inr ⟨rfl, .inl ⟨M, rfl, rfl⟩⟩, O.Ci, x1, _, .int M, rfl, R1, .inl ⟨M, rfl, bM, v3k.1, fun y1 K2 ny1 t2 S1 => ?_⟩⟩
      refine ⟨_, rfl, _, _, rfl, rfl, _, rfl, fun x2 d2 nx2 nd2 ne2 => ⟨x2, d2, M - 1, some M, rfl, upd_same, bM1, bM, fun K3 R2 kp2 => ⟨rfl, ?_⟩⟩⟩
      have S1' : RAt C K3 y1 (mvR (mkR (-1) (some 0)) M) := let ⟨d, e⟩ := S1; ⟨d, Same.made nx2 nd2 kp2 _ _ e⟩
      obtain ⟨w1, ew1⟩ := id S1'
      refine ⟨y1, w1, _, .ref C, rfl, ew1, T.ty R2, T.oCC, y1, .ref x2, _, rfl, S1', .inl ⟨x2, _, rfl, R2, fun K6 _ => ⟨_, rfl, _, rfl, iteFe (by rw [v3k.2]; rfl) ?_⟩⟩⟩
      -- Range(0, 1) - most != Range(-most, 1 - most)
      refine fun x1 d1 nx1 nd1 ne1 => ⟨x1, d1, 0, some 1, rfl, upd_same, bm 0 (by omega) (by omega), bm 1 (by omega) (by omega), fun K1 R1 kp1 => ⟨rfl, ?_⟩⟩
      obtain ⟨z1, ez1⟩ := id R1
      refine ⟨_, rfl, x1, z1, _, "int", true, rfl, ez1, .base (.int M), num_int_sub, O.iC, x1, _, .int M, rfl, R1, .inl ⟨M, rfl, bM, v4k.1, fun y1 K2 ny1 t2 S1 => ?_⟩⟩
      refine ⟨_, rfl, _, rfl, _, rfl, _, _, rfl, rfl, fun x2 d2 nx2 nd2 ne2 => ⟨x2, d2, -M, some (1 - M), rfl, upd_same, bMn, bM2, fun K3 R2 kp2 => ⟨rfl, ?_⟩⟩⟩
      have S1' : RAt C K3 y1 (mvR (mkR 0 (some 1)) (-M)) := let ⟨d, e⟩ := S1; ⟨d, Same.made nx2 nd2 kp2 _ _ e⟩
      obtain ⟨w1, ew1⟩ := id S1'
      refine ⟨y1, w1, _, .ref C, rfl, ew1, T.ty R2, T.oCC, y1, .ref x2, _, rfl, S1', .inl ⟨x2, _, rfl, R2, fun K7 _ => ⟨_, rfl, _, rfl, iteFe (by rw [v4k.2]; rfl) ?_⟩⟩⟩
      -- values that are no texts
      refine ⟨by show 1 ≤ sizeLine; decide, fun t1 nt1 => ?_⟩
      have p1 := same_new (o := .lst [.str "0 1"]) nt1
      refine ⟨by show 2 ≤ sizeLine; decide, fun t2 nt2 => ?_⟩
      have p2 := same_new (o := .tup [.str "0", .str "1"]) nt2
      intro t3 nt3
      have p3 := same_new (o := .dK []) nt3
      refine ⟨by show 6 ≤ sizeLine; decide, fun lo nlo => ?_⟩
      have p4 := same_new (o := .lst [.non, .int 5, .ref t1, .ref t2, .ref t3, .bl true]) nlo
      obtain ⟨He, eHe⟩ : ∃ He, He = upd (upd (upd (upd K7 t1 (.lst [.str "0 1"])) t2 (.tup [.str "0", .str "1"])) t3 (.dK [])) lo (.lst [.non, .int 5, .ref t1, .ref t2, .ref t3, .bl true]) := ⟨_, rfl⟩
      have elo : He lo = some (.lst [.non, .int 5, .ref t1, .ref t2, .ref t3, .bl true]) := by rw [eHe, upd_same]
      have e3 : He t3 = some (.dK []) := by rw [eHe]; exact p4 _ _ upd_same
      have e2 : He t2 = some (.tup [.str "0", .str "1"]) := by rw [eHe]; exact (p3.trans p4) _ _ upd_same
      have e1 : He t1 = some (.lst [.str "0 1"]) := by rw [eHe]; exact (p2.trans (p3.trans p4)) _ _ upd_same
      rw [← eHe]
      clear eHe p1 p2 p3 p4
      refine ⟨lo, rfl, ⟨_, SqL.of elo⟩, fun D nD => lc_list (K := K) (a := lo) (xs := [.non, .int 5, .ref t1, .ref t2, .ref t3, .bl true]) (fun _ H' => H' D = some (.lst []) ∧ Same He H') ⟨upd_same, same_new nD⟩ (fun _ H' _ z => SqL.of (z.2 _ _ elo)) ?_ ?_⟩
      · rintro j y H' hj ⟨hD, s⟩
        have od : ∃ t, TyX K H' y t ∧ kit K t "str" false := by
          match j, hj with
          | 0, hj => cases hj; exact ⟨_, .base .non, kit_ty (by decide +kernel)⟩
          | 1, hj => cases hj; exact ⟨_, .base (.int _), kit_ty (by decide +kernel)⟩
          | 2, hj => cases hj; exact ⟨_, .base (.lst (s _ _ e1)), kit_ty (by decide +kernel)⟩
          | 3, hj => cases hj; exact ⟨_, .base (.tup (s _ _ e2)), kit_ty (by decide +kernel)⟩
          | 4, hj => cases hj; exact ⟨_, .base (.dK (s _ _ e3)), kit_ty (by decide +kernel)⟩
          | 5, hj => cases hj; exact ⟨_, .base (.bl _), kit_ty (by decide +kernel)⟩
          | j + 6, hj => cases hj
        obtain ⟨t, ty, kt⟩ := od
        refine ⟨rfl, _, rfl, y, rfl, .inr ⟨t, ty, kt, fun v H2 s2 rv => ?_⟩⟩
        have e : v = .non := rv
        subst e
        exact ⟨rfl, _, rfl, iteF ⟨s2 _ _ hD, s.trans s2⟩⟩
      · rintro H' ⟨hD, s⟩
        refine ⟨by show 0 ≤ sizeLine; decide, fun q nq => ?_⟩
        have hD' := (same_new (o := .lst []) nq) _ _ hD
        refine ⟨.list [], .list [], .lst (SqL.of hD') .nil, .lst (SqL.of upd_same) .nil, shp_nil, shp_nil, ?_⟩
        rw [show PyData.eqv (.list []) (.list []) = true by simp [PyData.eqv, PyData.eqvAll]]
        exact k _
end

end K04

namespace K04
open PySem PySem.Spec PyProof.Rows L2 Jg
local macro_rules | `(tactic| walk_at "rd1") => `(tactic| (first
  | refine ⟨_, rfl, ?_⟩
  | refine ⟨_, _, rfl, rfl, ?_⟩
  | refine ⟨_, _, rfl, ?_⟩
  | refine ⟨rfl, ?_⟩
  | (refine ⟨show (0 : Int) < _ by omega, ?_⟩)
  | (refine ⟨Or.inl ⟨by omega, by omega⟩, ?_⟩)
  | (refine ⟨Or.inr ⟨by omega, by omega⟩, ?_⟩)
  | (refine ⟨(⟨by decide, by decide, by decide⟩ : CPow _ _), ?_⟩)
  | refine Or.inl ⟨_, rfl, ?_⟩
  | refine Or.inr ⟨_, rfl, ?_⟩
  | fail "rd"))
local macro_rules | `(tactic| walk_at "rd") => `(tactic| repeat' walk_at "rd1")


theorem Txt.of {K : PySem.W.Frag} {h : Heap} {mg : Str → Option Value} {C : Addr} (X : K.In h) (G : h.Ns mainGlobals mg)
    (aC : PySem.W.nsIn K mainGlobals "Range" = some (some (.ref C)))
    (pg : PySem.W.plainGet K C Str.empty = true) (hd : PySem.W.hasDictIn K C = true) (po : PySem.W.plainOver K C = true) (sa : PySem.W.findIn K (.ref C) "__setattr__" = some (some (.builtin "object.__setattr__")))
    (nl : PySem.W.findIn K (.ref C) "_low" = some none) (nh : PySem.W.findIn K (.ref C) "_high" = some none) (sf : PySem.W.selfFirst K C = true)
    (aB : ∃ u, mg "BOUND" = some u ∧ L2.RelV (.int 1000000000000000000000000000000000000000000000000000000000000) u)
    (b1 : PySem.W.nsIn K mainGlobals "isinstance" = some none) (b2 : PySem.W.nsIn K mainGlobals "int" = some none) (b3 : PySem.W.nsIn K mainGlobals "bool" = some none) (b4 : PySem.W.nsIn K mainGlobals "str" = some none)
    (b5 : PySem.W.nsIn K mainGlobals "len" = some none) (b6 : PySem.W.nsIn K mainGlobals "max" = some none) (b7 : PySem.W.nsIn K mainGlobals "min" = some none) (b8 : PySem.W.nsIn K mainGlobals "range" = some none)
    (b9 : PySem.W.nsIn K mainGlobals "repr" = some none) (b10 : PySem.W.nsIn K mainGlobals "sorted" = some none) (b11 : PySem.W.nsIn K mainGlobals "set" = some none)
    (c1 : PySem.W.findIn K (.ref C) "__class__" = some (some (.builtin "object.__class__"))) (c2 : PySem.W.specialIn K (.builtin "object.__class__") "__get__" = some (some (.builtin "getset_descriptor.__get__"))) (c3 : PySem.W.takesIn K (.builtin "object.__class__") = some true)
    (c4 : PySem.W.mroIn K C (.type "object") = some true)
    (k1 : PySem.W.kitOne K (.ref C) (.ref C) = some true) (k2 : PySem.W.kitOne K (.type "NoneType") (.ref C) = some false) (k3 : PySem.W.kitOne K (.type "bool") (.ref C) = some false) (k4 : PySem.W.kitOne K (.type "int") (.ref C) = some false)
    (k5 : PySem.W.kitOne K (.type "str") (.ref C) = some false) (k6 : PySem.W.kitOne K (.type "list") (.ref C) = some false) (k7 : PySem.W.kitOne K (.type "tuple") (.ref C) = some false) (k8 : PySem.W.kitOne K (.type "dict") (.ref C) = some false)
    (k9 : PySem.W.kitOne K (.ref C) (.type "int") = some false) (k10 : PySem.W.notFirst K C (.ref C) = true) : Txt K mg C :=
  have n {x : Str} (z : PySem.W.nsIn K mainGlobals x = some none) : mg x = none := PySem.W.mg_none_of X G z
  ⟨⟨pg, hd, po, sa⟩, nl, nh, sf, PySem.W.mg_of X G aC, by rw [B_eq]; exact aB, n b1, n b2, n b3, n b4, n b5, n b6, n b7, n b8, n b9, n b10, n b11, c1, c2, c3, c4, k1, k2, k3, k4, k5, k6, k7, k8, k9, k10⟩
theorem odds {K : PySem.W.Frag} {mg : Str → Option Value} {C : Addr} (T : Txt K mg C) : OddTy K C (.type "NoneType") ∧ OddTy K C (.type "bool") ∧ OddTy K C (.type "str") ∧ OddTy K C (.type "tuple") ∧ OddTy K C (.type "list") ∧ OddTy K C (.type "dict") :=
  ⟨⟨T.kN, false, false, kit_ty (by decide +kernel), kit_ty (by decide +kernel), rfl⟩, ⟨T.kB, true, true, kit_ty (by decide +kernel), kit_ty (by decide +kernel), rfl⟩, ⟨T.kS, false, false, kit_ty (by decide +kernel), kit_ty (by decide +kernel), rfl⟩,
    ⟨T.kT, false, false, kit_ty (by decide +kernel), kit_ty (by decide +kernel), rfl⟩, ⟨T.kL, false, false, kit_ty (by decide +kernel), kit_ty (by decide +kernel), rfl⟩, ⟨T.kD, false, false, kit_ty (by decide +kernel), kit_ty (by decide +kernel), rfl⟩⟩

theorem ExnQ.of {K : PySem.W.Frag} {h : Heap} {mg : Str → Option Value} {x : Str} {CI : Addr} {qual : Str} {st : Stmt} {f : Str} {B nid iid : String} {line : List Value} {fI : Addr} {oc : Value} {od an : Option Addr} {osl : Array (Option Value)} {kV doc pm cdv ct : Value}
    (X : K.In h) (G : h.Ns mainGlobals mg) (fB : ExcBaseFacts B nid iid line) (sB : StoreFacts B line "object.__setattr__" "object") (aI : PySem.W.nsIn K mainGlobals x = some (some (.ref CI))) (xI : PySem.W.excInitIn K CI line nid = true) (xO : PySem.W.excOver K CI line = true)
    (sa : PySem.W.findIn K (.ref CI) "__setattr__" = some (some (.builtin "object.__setattr__"))) (exC : PySem.W.subIn K (.ref CI) (.type "BaseException") = some true) (tyC : PySem.W.typeIn K (.ref CI) = some (.type "type")) (kC : PySem.W.keepIn K (.ref CI) = true)
    (ga : PySem.W.findIn K (.ref CI) "__getattribute__" = some (some (.builtin "BaseException.__getattribute__"))) (gg : PySem.W.findIn K (.ref CI) "__getattr__" = some none) (hdC : PySem.W.hasDictIn K CI = true)
    (ha : PySem.W.findIn K (.ref CI) "__class__" = some (some (.builtin "object.__class__"))) (hn : PySem.W.specialIn K (.builtin "object.__class__") "__get__" = some (some (.builtin "getset_descriptor.__get__"))) (ht : PySem.W.takesIn K (.builtin "object.__class__") = some true) (hm : PySem.W.mroIn K CI (.type "object") = some true)
    (no : PySem.W.findIn K (.ref CI) f = some none) (iI : PySem.W.findIn K (.ref CI) "__init__" = some (some (.ref fI))) (tI : PySem.W.typeIn K (.ref fI) = some (.type "function"))
    (l : K.lookup fI = some ⟨oc, od, .func (PySem.W.fnOf "__init__" qual (defArgs st) (defBody st) (defScope st) .none kV doc pm an cdv ct), osl⟩) (c : PySem.W.codeIn K cdv qual = true) (k : PySem.W.keepIn K (.ref fI) = true)
    (sC : PySem.W.subIn K (.ref CI) (.ref CI) = some true) : ExnQ K mg x CI qual st f :=
  ⟨PySem.W.mg_of X G aI, ⟨B, nid, iid, line, fB, sB, xI, xO, hdC, sa, exC, tyC, kC⟩, ⟨⟨ga, gg, exC, hdC⟩, ha, hn, ht, hm⟩, no, ⟨fI, _, fun_mk l c k, iI, tI⟩, PySem.W.exm_ref exC hdC tyC sC⟩
theorem TstP.of {K : PySem.W.Frag} {h : Heap} {mg : Str → Option Value} {CP CG : Addr} (X : K.In h) (G : h.Ns mainGlobals mg) (aG : PySem.W.nsIn K mainGlobals "GapError" = some (some (.ref CG))) (kG : PySem.W.kitOne K (.ref CP) (.ref CG) = some true) : TstP K mg CP CG := ⟨PySem.W.mg_of X G aG, kG⟩
theorem TstM.of {K : PySem.W.Frag} {h : Heap} {mg : Str → Option Value} {CM CG CI : Addr} (X : K.In h) (G : h.Ns mainGlobals mg) (aG : PySem.W.nsIn K mainGlobals "GapError" = some (some (.ref CG))) (aI : PySem.W.nsIn K mainGlobals "InvalidRange" = some (some (.ref CI))) (kG : PySem.W.kitOne K (.ref CM) (.ref CG) = some true) (kI : PySem.W.kitOne K (.ref CM) (.ref CI) = some false) : TstM K mg CM CG CI := ⟨PySem.W.mg_of X G aG, PySem.W.mg_of X G aI, kG, kI⟩
theorem OpsK.of {K : PySem.W.Frag} {C : Addr} (o0 : PySem.W.subIn K (.type "int") (.ref C) = some false) (o1 : PySem.W.subIn K (.ref C) (.type "int") = some false) (o2 : PySem.W.subIn K (.type "bool") (.ref C) = some false) (o3 : PySem.W.subIn K (.ref C) (.type "bool") = some false) (o4 : PySem.W.subIn K (.type "str") (.ref C) = some false) (o5 : PySem.W.subIn K (.ref C) (.type "str") = some false) (o6 : PySem.W.subIn K (.type "tuple") (.ref C) = some false) (o7 : PySem.W.subIn K (.ref C) (.type "tuple") = some false) (o8 : PySem.W.subIn K (.type "list") (.ref C) = some false) (o9 : PySem.W.subIn K (.ref C) (.type "list") = some false) : OpsK K C := ⟨o0, o1, o2, o3, o4, o5, o6, o7, o8, o9⟩
theorem dun_add : PySem.dunder Operator.Add.info.2 = ("__add__" : Str) := by decide +kernel
theorem dun_sub : PySem.dunder Operator.Sub.info.2 = ("__sub__" : Str) := by decide +kernel
theorem dun_radd : dunderR Operator.Add.info.2 = ("__radd__" : Str) := by decide +kernel
theorem dun_rsub : dunderR Operator.Sub.info.2 = ("__rsub__" : Str) := by decide +kernel
theorem fin {P : Program} {w : World} {K : PySem.W.Frag} {mg : Str → Option Value} {fa C CM CP CG CI f0 g0 : Addr} (hfa : mg "law" = some (.ref fa)) (T : Txt K mg C) (bL : mg "list" = none) (mk1 : PySem.W.makesIn K C = true) (mk2 : PySem.W.keepIn K (.ref C) = true)
    (O : OpsK K C) (ne : PySem.W.findIn K (.ref C) "__ne__" = some (some (.builtin "object.__ne__"))) (own : PySem.W.findIn K (.ref C) "__add__" = some (some (.ref f0))) (rad : PySem.W.findIn K (.ref C) "__radd__" = some (some (.ref g0))) (rsb : PySem.W.findIn K (.ref C) "__rsub__" = some none)
    (I : ExnQ K mg "InvalidMoment" CM "InvalidMoment.__init__" s_InvalidMoment_init "value") (U : ExnQ K mg "ParseError" CP "ParseError.__init__" s_ParseError_init "line") (SP : TstP K mg CP CG) (SM : TstM K mg CM CG CI)
    (d1 : DefK K mg "is_integer" s_is_integer) (d2 : DefK K mg "is_bounded" s_is_bounded) (d3 : MetK K C "__init__" "Range.__init__" s_Range_init) (d4 : CmtK K C (.type "type") "empty" "Range.empty" s_Range_empty) (d5 : MetK K C "__eq__" "Range.__eq__" s_Range_eq) (d6 : PrpK K C "first" "Range.first" s_Range_first) (d7 : PrpK K C "last" "Range.last" s_Range_last) (d8 : MetK K C "__bool__" "Range.__bool__" s_Range_bool) (d9 : DefK K mg "_law_stream" s_law_stream) (d10 : DefK K mg "_law_draw" s_law_draw) (d11 : DefK K mg "_law_choose" s_law_choose) (d12 : DefK K mg "_checked_shift" s_checked_shift) (d13 : MetK K C "_moved" "Range._moved" s_Range_moved) (d14 : MetK K C "__add__" "Range.__add__" s_Range_add) (d15 : MetK K C "__radd__" "Range.__radd__" s_Range_radd) (d16 : MetK K C "__sub__" "Range.__sub__" s_Range_sub) (d17 : MetK K C "__str__" "Range.__str__" s_Range_str) (d18 : DefK K mg "is_written_integer" s_is_written_integer) (d19 : DefK K mg "_law_number" s_law_number) (d20 : CmtK K C (.type "type") "parsed" "Range.parsed" s_Range_parsed) (d21 : DefK K mg "_law_ends" s_law_ends) (d22 : DefK K mg "_law_moved" s_law_moved) (d23 : DefK K mg "_law_text" s_law_text) (d24 : DefK K mg "_law_due" s_law_due) (d25 : DefK K mg "_law_read" s_law_read) (d26 : DefK K mg "_law_drawn" s_law_drawn) (d27 : DefK K mg "_law_bent" s_law_bent) (d28 : DefK K mg "_law_refused" s_law_refused) (d29 : DefK K mg "law" s_law) :
    ∃ fd : FuncData, (∀ (s : Shared) (v : Value), BindsTo s fd ⟨[v], []⟩ [("script", v)]) ∧ ∀ base : Heap, K.In base → base.Ns mainGlobals mg → FnG P w K mg base CX0 10 fa fd ["script"] (spLaw K) := by
  obtain ⟨f, fd, F, m⟩ := d29.ex
  rw [hfa] at m
  cases m
  refine ⟨fd, ?_, fun base _ _ => ?_⟩
  · obtain ⟨_, _, _, _, _, _, _, _, _, rfl, _, _⟩ := F.ex
    exact fun s v => .of_eq rfl
  · have g1 := ok_is_integer (P := P) (w := w) (base := base) d1 T
    have g2 := ok_is_bounded (P := P) (w := w) (base := base) d2 T g1
    have g3 := ok_init (P := P) (w := w) (base := base) d3 T g2
    have M : Mak P w K mg base CX0 3 "Range" C (spInit C) := ⟨T.cRange, mk1, mk2, g3⟩
    have g4 := ok_empty (P := P) (w := w) (base := base) d4 M
    have g5 := ok_eq (P := P) (w := w) (base := base) d5 T
    have g6 := ok_first (P := P) (w := w) (base := base) d6 T
    have g7 := ok_last (P := P) (w := w) (base := base) d7 T
    have g8 := ok_bool (P := P) (w := w) (base := base) d8 T
    have g9 := ok_stream (P := P) (w := w) (base := base) d9 T
    have g10 := ok_draw (P := P) (w := w) (base := base) d10
    have g11 := ok_choose (P := P) (w := w) (base := base) d11 T g10
    have xI := ok_minit (P := P) (w := w) (base := base) I
    have xU := ok_pinit (P := P) (w := w) (base := base) U
    have g12 := ok_shift (P := P) (w := w) (base := base) d12 T g2 xI
    have g13 := ok_moved (P := P) (w := w) (base := base) d13 T M g4
    have g14 : Met P w K mg base (L2.CX P w) 7 C (PySem.dunder Operator.Add.info.2) (spAddX K C CM id) := by rw [dun_add]; exact ok_add d14 T g13 g12
    have g15 : Met P w K mg base (L2.CX P w) 7 C (dunderR Operator.Add.info.2) (spAddX K C CM id) := by rw [dun_radd]; exact ok_radd d15 T g13 g12
    have g16 : Met P w K mg base (L2.CX P w) 7 C (PySem.dunder Operator.Sub.info.2) (spAddX K C CM fun d => -d) := by rw [dun_sub]; exact ok_sub d16 T g13 g12
    have own' : PySem.W.findIn K (.ref C) (PySem.dunder Operator.Add.info.2) = some (some (.ref f0)) := by rw [dun_add]; exact own
    have B1 : Bin K C Operator.Add.info.2 := ⟨T.sf, .inr ⟨g0, by rw [dun_radd]; exact rad⟩⟩
    have B2 : Bin K C Operator.Sub.info.2 := ⟨T.sf, .inl (by rw [dun_rsub]; exact rsb)⟩
    have g17 := ok_str (P := P) (w := w) (base := base) d17 T
    have g18 := ok_written (P := P) (w := w) (base := base) d18 T
    have g19 := ok_num (P := P) (w := w) (base := base) d19 T
    have g20 := ok_parsed (P := P) (w := w) (base := base) d20 T M g4 g18 xU
    have g21 := ok_ends (P := P) (w := w) (base := base) d21 T g8 g6 g7
    have g22 := ok_lmoved (P := P) (w := w) (base := base) d22 T
    have g23 := ok_ltext (P := P) (w := w) (base := base) d23 T
    have g24 := ok_due (P := P) (w := w) (base := base) d24 T g19
    have g25 := ok_read (P := P) (w := w) (base := base) d25 T U SP g21 g20
    have g26 := ok_drawn (P := P) (w := w) (base := base) d26 T g10 g11
    have g27 := ok_bent (P := P) (w := w) (base := base) d27 T bL g10 g11
    have g28 := ok_lrefused (P := P) (w := w) (base := base) d28 T I SM B1 B2 own' g14 g15 g16
    exact fnG_of F sc_law (fun vs H Q E h => by obtain ⟨a, ns, rfl, _⟩ := h; rfl) fun cdv A outer s H vs Q E g hr h =>
      let ⟨t, a, q⟩ := body_law T O ne B1 B2 own' M g5 g17 g14 g15 g16 g9 g10 g11 g26 g21 g22 g23 g24 g25 g27 g28 fa cdv A outer s H vs Q E (guards_deeper g) hr h
      ⟨t, a.nox, q⟩
theorem walk {l : PySem.W.OpenLaw} {q : Program} {loose : List Str} {XP : (Str → Option Value) → Heap → Prop} {YP : World → Heap → Prop} {d : DefRec} {K : Params → PySem.W.Frag} (hn : l.most = some 63) (hdf : d.params.defaults = [])
    (hY : ∀ (w : World) (h : Heap), YP w h → (K w.params).In h)
    (F : ∀ (w : World) (mg : Str → Option Value) (fa : Addr) (h : Heap), (K w.params).In h → h.Ns mainGlobals mg → mg d.name = some (.ref fa) → XP mg h →
      ∃ fd : FuncData, (∀ (s : Shared) (u : Value), BindsTo s fd ⟨[u], []⟩ [("script", u)]) ∧ ∀ base : Heap, (K w.params).In base → base.Ns mainGlobals mg → FnG l.prog w (K w.params) mg base CX0 10 fa fd ["script"] (spLaw (K w.params))) :
    PySem.W.WalkO q loose XP YP l.row.toRowW d [] (fun f vs => PySem.call f vs) :=
  walk_ofG (n := 63) (k := 10) (x := "script") (CX := fun _ => CX0) (sp := fun w => spLaw (K w.params)) hn (by decide) hdf ⟨rfl, by decide, by decide⟩ hY F (fun _ _ a ns hl _ hS => ⟨a, ns, rfl, hS, hl, fun _ => rfl⟩) fun _ _ _ _ _ z => z
end K04
open PySem PySem.W PyProof.Rows
local macro_rules | `(tactic| walk_at "dk") => `(tactic| (refine' Jg.DefK.of (by assumption) (by assumption) ?a ?l ?c ?k; (case a => k_is); (case l => k_is); (case c => k_is); (case k => k_is)))
local macro_rules | `(tactic| walk_at "mk") => `(tactic| (refine' Jg.MetK.of ?a ?i ?l ?c ?k; (case a => k_is); (case i => k_is); (case l => k_is); (case c => k_is); (case k => k_is)))
local macro_rules | `(tactic| walk_at "pk") => `(tactic| (refine' Jg.PrpK.of ?a ?g ?tk ?rc ?l ?c ?k; (case a => k_is); (case g => k_is); (case tk => k_is); (case rc => k_is); (case l => k_is); (case c => k_is); (case k => k_is)))
local macro_rules | `(tactic| walk_at "ck") => `(tactic| (refine' Jg.CmtK.of ?rd ?ga ?a ?rc ?fi ?l ?c ?k; (case rd => k_is); (case ga => k_is); (case a => k_is); (case rc => k_is); (case fi => k_is); (case l => k_is); (case c => k_is); (case k => k_is)))
set_option maxRecDepth 100000 in
set_option maxHeartbeats 0 in
theorem PySem.Challenge.cw_gaplesskeys_k04_ranges_moved_and_written_holds : PySem.Challenge.rw_gaplesskeys_k04_ranges_moved_and_written.Holds := by
  w_on; o_law; k_head; (case hw => w_witness2)
  k_fill
  refine K04.walk (l := PySem.Challenge.rw_gaplesskeys_k04_ranges_moved_and_written) rfl rfl (fun w h Y => PySem.W.kIn_of Y) ?F
  case F =>
    intro w mg fa h KX G hmg XP
    refine' K04.fin hmg ?T ?ab ?mk1 ?mk2 ?OO ?ne ?own ?rad ?rsb ?I ?U ?SP ?SM ?d1 ?d2 ?d3 ?d4 ?d5 ?d6 ?d7 ?d8 ?d9 ?d10 ?d11 ?d12 ?d13 ?d14 ?d15 ?d16 ?d17 ?d18 ?d19 ?d20 ?d21 ?d22 ?d23 ?d24 ?d25 ?d26 ?d27 ?d28 ?d29
    case T =>
      refine' K04.Txt.of KX G ?aC ?pg ?hd ?po ?sa ?nl ?nh ?sf ?aB ?b1 ?b2 ?b3 ?b4 ?b5 ?b6 ?b7 ?b8 ?b9 ?b10 ?b11 ?c1 ?c2 ?c3 ?c4 ?k1 ?k2 ?k3 ?k4 ?k5 ?k6 ?k7 ?k8 ?k9 ?k10
      case aC => k_is
      case aB => exact Jg.loose_int XP (List.Mem.head _)
      all_goals (first | k_is | kit_is)
    (case ab => refine PySem.W.mg_none_of KX G ?_; k_is)
    (case mk1 => k_is); (case mk2 => k_is)
    case OO =>
      refine' K04.OpsK.of ?Oo0 ?Oo1 ?Oo2 ?Oo3 ?Oo4 ?Oo5 ?Oo6 ?Oo7 ?Oo8 ?Oo9
      all_goals (first | k_is | kit_is | rfl)
    (case ne => k_is); (case own => k_is); (case rad => k_is); (case rsb => k_is)
    case I =>
      refine' K04.ExnQ.of KX G PySem.F.excBase_ValueError PySem.F.store_ValueError ?XaI ?XxI ?XxO ?Xsa ?XexC ?XtyC ?XkC ?Xga ?Xgg ?XhdC ?Xha ?Xhn ?Xht ?Xhm ?Xno ?XiI ?XtI ?Xl ?Xc ?Xk ?XsC
      (case XaI => k_is); (case XxI => first | decide +kernel | rfl); (case XxO => first | decide +kernel | rfl); (case Xsa => k_is); (case XexC => k_is); (case XtyC => k_is); (case XkC => k_is); (case Xga => k_is); (case Xgg => k_is); (case XhdC => k_is); (case Xha => k_is); (case Xhn => k_is); (case Xht => k_is); (case Xhm => k_is)
      (case Xno => k_is); (case XiI => k_is); (case XtI => k_is); (case Xl => k_is); (case Xc => k_is); (case Xk => k_is); (case XsC => first | rfl | k_is)
    case U =>
      refine' K04.ExnQ.of KX G PySem.F.excBase_ValueError PySem.F.store_ValueError ?ZaI ?ZxI ?ZxO ?Zsa ?ZexC ?ZtyC ?ZkC ?Zga ?Zgg ?ZhdC ?Zha ?Zhn ?Zht ?Zhm ?Zno ?ZiI ?ZtI ?Zl ?Zc ?Zk ?ZsC
      (case ZaI => k_is); (case ZxI => first | decide +kernel | rfl); (case ZxO => first | decide +kernel | rfl); (case Zsa => k_is); (case ZexC => k_is); (case ZtyC => k_is); (case ZkC => k_is); (case Zga => k_is); (case Zgg => k_is); (case ZhdC => k_is); (case Zha => k_is); (case Zhn => k_is); (case Zht => k_is); (case Zhm => k_is)
      (case Zno => k_is); (case ZiI => k_is); (case ZtI => k_is); (case Zl => k_is); (case Zc => k_is); (case Zk => k_is); (case ZsC => first | rfl | k_is)
    case SP =>
      refine' K04.TstP.of KX G ?YaG ?YkG
      (case YaG => k_is)
      all_goals (first | k_is | kit_is)
    case SM =>
      refine' K04.TstM.of KX G ?WaG ?WaI ?WkG ?WkI
      (case WaG => k_is); (case WaI => k_is)
      all_goals (first | k_is | kit_is)
    (case d1 => walk_at "dk")
    (case d2 => walk_at "dk")
    (case d3 => walk_at "mk")
    (case d4 => walk_at "ck")
    (case d5 => walk_at "mk")
    (case d6 => walk_at "pk")
    (case d7 => walk_at "pk")
    (case d8 => walk_at "mk")
    (case d9 => walk_at "dk")
    (case d10 => walk_at "dk")
    (case d11 => walk_at "dk")
    (case d12 => walk_at "dk")
    (case d13 => walk_at "mk")
    (case d14 => walk_at "mk")
    (case d15 => walk_at "mk")
    (case d16 => walk_at "mk")
    (case d17 => walk_at "mk")
    (case d18 => walk_at "dk")
    (case d19 => walk_at "dk")
    (case d20 => walk_at "ck")
    (case d21 => walk_at "dk")
    (case d22 => walk_at "dk")
    (case d23 => walk_at "dk")
    (case d24 => walk_at "dk")
    (case d25 => walk_at "dk")
    (case d26 => walk_at "dk")
    (case d27 => walk_at "dk")
    (case d28 => walk_at "dk")
    (case d29 => walk_at "dk")
#print axioms PySem.Challenge.cw_gaplesskeys_k04_ranges_moved_and_written_holds
